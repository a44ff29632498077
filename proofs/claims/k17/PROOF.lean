import PyProof.Rows.All
import Wide.All
import OpenK.AllK
import Wide.FinOn
import Lean
import PyProof.EqAt
import PyProof.EqKinds
import PyProof.TupleCall
import PyProof.ZipIter
import PyProof.ExcArgsOwn
import PyProof.ExcAttrAll.ValueError
import KE.KSortTup
import PyProof.AutoSeq1
import PySem.SetTable
import PyProof.SetNew
import PyProof.TupleKey
import PyProof.DictRoadsH
import PyProof.DictKinds
import PyProof.IsRules
import PyProof.Rows.SetFrom
import PyProof.WalksMore
import KE.KDictSum
import KE.KDictOf
import PyProof.AttrMissHeap
import PySem.Challenge.RW_leastlays_k17_looker_refuses
set_option compiler.extract_closed false
set_option bootstrap.genMatcherCode false
set_option genSizeOf false
set_option Elab.async false
set_option linter.all false
set_option maxRecDepth 100000
set_option maxHeartbeats 4000000
abbrev LLI:=List (List Int)
namespace L2
open PySem PySem.Spec PyProof.Rows
abbrev Key:=Sum Int Str
noncomputable def a3K:Key->Value->Bool
 |.inl k,v=>Value.isInt k v
 |.inr x,v=>Value.isStrOf x v
noncomputable def b7L(w:World):Key->Int
 |.inl k=>hashInt k
 |.inr x=>hashStr w x
theorem C3:∀{k:Key}{v:Value},a3K k v=true->(∃i t,k=Sum.inl i/\v=Value.int i t)∨(∃x t,k=Sum.inr x/\v=Value.str x t)
 |.inl i,v,h=>by
  obtain⟨t,e⟩:=Value.isInt_shape (k:=i) (v:=v) h;exact .inl ⟨i,t,rfl,e⟩
 |.inr x,v,h=>by
  obtain⟨t,e⟩:=Value.isStrOf_shape (x:=x) (v:=v) h;exact .inr ⟨x,t,rfl,e⟩
theorem a9t(i:Int)(t:Tok):a3K (.inl i) (.int i t)=true:=by simp[a3K,Value.isInt]
theorem a9s(x:Str)(t:Tok):a3K (.inr x) (.str x t)=true:=by simp[a3K,Value.isStrOf]
theorem b6j(a b:Int):decide ((Sum.inl a:Key)=Sum.inl b)=(a==b):=by
 by_cases e:a=b
 .subst e;simp
 .have h:¬(Sum.inl a:Key)=Sum.inl b:=λq=>e (Sum.inl.inj q);rw[decide_eq_false h];exact(beq_eq_false_iff_ne.mpr e).symm
theorem b6g(a b:Str):decide ((Sum.inr a:Key)=Sum.inr b)=decide (a=b):=by
 by_cases e:a=b
 .subst e;simp
 .have h:¬(Sum.inr a:Key)=Sum.inr b:=λq=>e (Sum.inr.inj q);rw[decide_eq_false h,decide_eq_false e]
theorem b6i(a:Int)(b:Str):decide ((Sum.inl a:Key)=Sum.inr b)=false:=decide_eq_false (λq=>nomatch q)
theorem b6h(a:Str)(b:Int):decide ((Sum.inr a:Key)=Sum.inl b)=false:=decide_eq_false (λq=>nomatch q)
noncomputable def B5(prog:Program)(w:World):PySem.KeyKind prog w Key where
 is:=a3K
 hash:=b7L w
 inj:=λv a b ha hb=>by
  rcases C3 ha with⟨i,t,rfl,rfl⟩|⟨x,t,rfl,rfl⟩
  .rcases C3 hb with⟨j,u,rfl,e⟩|⟨y,u,rfl,e⟩
   .injection e with e1 _;rw[e1]
   .exact nomatch e
  .rcases C3 hb with⟨j,u,rfl,e⟩|⟨y,u,rfl,e⟩
   .exact nomatch e
   .injection e with e1 _;rw[e1]
 byValue:=λk v h=>by
  rcases C3 h with⟨i,t,rfl,rfl⟩|⟨x,t,rfl,rfl⟩<;>rfl
 pyHash:=λhv h=>by
  rcases C3 hv with⟨i,t,rfl,rfl⟩|⟨x,t,rfl,rfl⟩
  .exact wpAny_pyHash_int h
  .exact wpAny_pyHash_str h
 eqBool:=λhu hv h=>by
  rcases C3 hu with⟨i,t,rfl,rfl⟩|⟨x,t,rfl,rfl⟩
  .rcases C3 hv with⟨j,u,rfl,rfl⟩|⟨y,u,rfl,rfl⟩
   .rw[b6j]at h;exact wpAny_eqBool_int h
   .rw[b6i]at h;exact SeqAt.EqAt.int_str i t y u _ _ _ _ h
  .rcases C3 hv with⟨j,u,rfl,rfl⟩|⟨y,u,rfl,rfl⟩
   .rw[b6h]at h;exact SeqAt.EqAt.str_int x t j u _ _ _ _ h
   .rw[b6g]at h;exact wpAny_eqBool_str h
 «strs»:=λk x t v h=>by
  rcases C3 h with⟨i,u,rfl,e⟩|⟨y,u,rfl,e⟩
  .exact nomatch e
  .injection e with e1 _
   subst e1;cases v<;>rfl
theorem a5P(prog:Program)(w:World)(i:Int)(t:Tok):(B5 prog w).is (.inl i) (.int i t)=true:=a9t i t
theorem a5O(prog:Program)(w:World)(x:Str)(t:Tok):(B5 prog w).is (.inr x) (.str x t)=true:=a9s x t
inductive V where
 |non|bl (b:Bool)|int (i:Int)|str (x:Str)|byt (b:Array UInt8)|flt (b:UInt64)|ref (a:Addr)|ty (n:String)
 deriving DecidableEq
def RelV:V->Value->Prop
 |.non,u=>u=Value.none
 |.bl b,u=>u=Value.bool b
 |.int i,u=>∃t,u=Value.int i t
 |.str x,u=>∃t,u=Value.str x t
 |.byt b,u=>∃t,u=Value.bytes b t
 |.flt b,u=>∃t,u=Value.float b t
 |.ref a,u=>u=Value.ref a
 |.ty n,u=>u=Value.type n
abbrev Vals:List V->List Value->Prop:=Paired RelV
theorem Vals.length{xs:List V}{us:List Value}(r:Vals xs us):xs.length=us.length:=Paired.length r
theorem Vals.get:∀{xs:List V}{us:List Value}{i:Nat}{x:V},Vals xs us->xs[i]?=some x->∃u,us[i]?=some u/\RelV x u
 |_,_,_,_,.nil,e=>by simp at e
 |_,_,0,_,.cons r _,e=>by simp at e;subst e;exact⟨_,rfl,r⟩
 |_,_,i+1,x,.cons _ t,e=>by
  obtain⟨u,h1,h2⟩:=Vals.get (i:=i) (x:=x) t (by simpa using e);exact⟨u,by simpa using h1,h2⟩
theorem Vals.set{x:V}{u:Value}(r:RelV x u):∀{xs:List V}{us:List Value}(i:Nat),Vals xs us->Vals (xs.set i x) (us.set i u)
 |_,_,_,.nil=>.nil
 |_,_,0,.cons _ t=>.cons r t
 |_,_,i+1,.cons q t=>.cons q (Vals.set r i t)
theorem Vals.append:∀{xs ys:List V}{us a:List Value},Vals xs us->Vals ys a->Vals (xs++ys) (us++a)
 |_,_,_,_,.nil,s=>s
 |_,_,_,_,.cons r t,s=>.cons r (Vals.append t s)
theorem Vals.take:∀{xs:List V}{us:List Value}(n:Nat),Vals xs us->Vals (xs.take n) (us.take n)
 |_,_,0,_=>.nil
 |_,_,_+1,.nil=>.nil
 |_,_,n+1,.cons r t=>.cons r (Vals.take n t)
theorem Vals.drop:∀{xs:List V}{us:List Value}(n:Nat),Vals xs us->Vals (xs.drop n) (us.drop n)
 |_,_,0,r=>r
 |_,_,_+1,.nil=>.nil
 |_,_,n+1,.cons _ t=>Vals.drop n t
def RelO:Option V->Option Value->Prop
 |some v,some u=>RelV v u
 |none,none=>True
 |_,_=>False
def KV{κ:Type}:List (κ×V)->List (κ×Value)->Prop:=Paired λ(p:κ×V) (q:κ×Value)=>p.1=q.1/\RelV p.2 q.2
noncomputable def kV:Key->V
 |.inl i=>.int i
 |.inr x=>.str x
inductive HO where
 |lst (xs:List V)
 |tup (xs:List V)
 |dK (kvs:List (Key×V))|dT (kvs:List (List Key×V))
 |set (S:Int->Bool) (n:Nat)
 |ins (C dx:Addr) (fs:List (Str×V))
 |own (x:Addr)
 |xd (fs:List (Str×V))
 |met (f x:Addr)
 |rng (lo hi:Int)
 |frz (o:Obj) (u:HO)
 |tbl (ps:Array Value)
 |ext (φ:Heap->Prop)
abbrev Hp:=Addr->Option HO
noncomputable def upd(H:Hp)(a:Addr)(o:HO):Hp:=λb=>if b=a then some o else H b
theorem A0{H:Hp}{a:Addr}{o:HO}:upd H a o a=some o:=by unfold upd;rw[if_pos rfl]
theorem A2{H:Hp}{a b:Addr}{o:HO}(h:b≠a):upd H a o b=H b:=by unfold upd;rw[if_neg h]
theorem a4f{H:Hp}{a:Addr}{o u:HO}:upd (upd H a o) a u=upd H a u:=by
 funext b;unfold upd;split<;>rfl
theorem K9{H:Hp}{a b:Addr}{o u:HO}(h:H a=some o)(h':H b=some u)(d:o≠u):a≠b:=by
 intro e;subst e;rw[h]at h';exact d (Option.some.inj h')
theorem A6{H:Hp}{a b:Addr}{o:HO}(h:H a=some o)(h':H b=none):a≠b:=by
 intro e;subst e;rw[h]at h';cases h'
section
variable (P:Program) (w:World)
def ObjOk(H:Hp)(h:Heap)(a:Addr):HO->Prop
 |.lst xs=>xs.length<=sizeLine/\∃(its:List Value) (n:Nat),Vals xs its/\h.get? a=some {cls:=.type "list",data:=.seq its.toArray n}
 |.tup xs=>xs.length<=sizeLine/\∃its:List Value,Vals xs its/\IsTup h a its.toArray
 |.dK kvs=>kvs.length<=sizeLine/\(a==sysModules)=false/\∃vs,KV kvs vs/\h.DictOf (B5 P w) a vs
 |.dT kvs=>kvs.length<=sizeLine/\(a==sysModules)=false/\∃xs:List (List Key×Addr×Value),
   Paired (λ(p:List Key×V) (q:List Key×Addr×Value)=>p.1=q.1/\H q.2.1=some (.tup (p.1.map kV))/\RelV p.2 q.2.2) kvs xs /\
   ∃o es ep,h.get? a=some o/\o.ExactDict/\o.data=.dict es ep/\es.toList=xs.map (entryOfKey (tupleKind (B5 P w)))/\(xs.map (·.1)).Nodup
 |.set S n=>h.SetOf (intKind P w) a S n
 |.ins C dx fs=>H dx=some (.own a)/\fs.length<=1000/\dx≠a/\h.get? a=some (PySem.W.instObj C dx) /\
   ∃mA,h.Ns1 dx mA/\(∀f,RelO (fs.lookup f) (mA f))/\PySem.Within mA (fs.map (·.1))
 |.own _=>∃o,h.get? a=some o
 |.xd fs=>∃mA,h.Ns1 a mA/\∀f,RelO (fs.lookup f) (mA f)
 |.rng lo hi=>∃t u v,h.get? a=some {cls:=.type "range",data:=.fields #[.int lo t,.int hi u,.int 1 v]}
 |.frz o u=>h.get? a=some o/\ObjOk H h a u
 |.tbl ps=>h.get? a=some {cls:=.none,data:=.fields ps}
 |.met f x=>h.get? a=some (PySem.W.methodObj (.ref f) (.ref x))
 |.ext φ=>φ h/\(∃o,h.get? a=some o)/\∀h1 h2:Heap,φ h1->(∀o,h1.get? a=some o->h2.get? a=some o)->φ h2
def HOk(H:Hp)(h:Heap):Prop:=∀a o,H a=some o->ObjOk P w H h a o
end
section
variable {P:Program}{w:World}{H H':Hp}{h h':Heap}{a:Addr}{o:HO}
theorem ObjOk.lt(x:ObjOk P w H h a o):a<h.objs.size:=by
 cases o with
 |lst xs=>obtain⟨_,_,_,_,e⟩:=x;exact Heap.lt_size e
 |tup xs=>obtain⟨_,_,_,p⟩:=x;exact p.lt
 |dK kvs=>obtain⟨_,_,_,_,o,_,_,e,_⟩:=x;exact Heap.lt_size e
 |dT kvs=>obtain⟨_,_,_,_,o,_,_,e,_⟩:=x;exact Heap.lt_size e
 |set S n=>obtain⟨o,_,_,_,e,_⟩:=x;exact Heap.lt_size e
 |ins C dx fs=>obtain⟨_,_,_,e,_⟩:=x;exact Heap.lt_size e
 |own y=>obtain⟨_,e⟩:=x;exact Heap.lt_size e
 |xd fs=>obtain⟨_,⟨_,_,_,e,_⟩,_⟩:=x;exact Heap.lt_size e
 |rng lo hi=>obtain⟨_,_,_,e⟩:=x;exact Heap.lt_size e
 |frz ob u=>obtain⟨e,_⟩:=x;exact Heap.lt_size e
 |tbl ps=>exact Heap.lt_size (show h.get? a=some _ from x)
 |met f y=>exact Heap.lt_size (show h.get? a=some _ from x)
 |ext φ=>obtain⟨_,⟨_,e⟩,_⟩:=x;exact Heap.lt_size e
theorem Paired.mapP{α β:Type}{F G:α->β->Prop}:∀{l₁:List α}{l₂:List β},Paired F l₁ l₂->(∀a b,F a b->G a b)->Paired G l₁ l₂
 |_,_,.nil,_=>.nil
 |_,_,.cons r t,f=>.cons (f _ _ r) (Paired.mapP t f)
theorem Paired.imp'{α β:Type}{F G:α->β->Prop}(f:∀a b,F a b->G a b){l₁:List α}{l₂:List β}(r:Paired F l₁ l₂):Paired G l₁ l₂:=Paired.mapP r f
theorem ObjOk.stay(x:ObjOk P w H h a o)(k:∀b u,(b=a∨H b=some (.own a))->h.get? b=some u->h'.get? b=some u)
  (i:∀b,H b=some (.own a)->H' b=some (.own a)) (j:∀b xs,H b=some (.tup xs)->H' b=some (.tup xs)):ObjOk P w H' h' a o:=by
 induction o with
 |lst xs=>obtain⟨z,its,n,r,e⟩:=x;exact⟨z,its,n,r,k _ _ (.inl rfl) e⟩
 |tup xs=>obtain⟨z,its,r,g,e,c⟩:=x;exact⟨z,its,r,g,k _ _ (.inl rfl) e,c⟩
 |dK kvs=>obtain⟨z,y,vs,r,g,es,ep,e,c⟩:=x;exact⟨z,y,vs,r,g,es,ep,k _ _ (.inl rfl) e,c⟩
 |dT kvs =>
  obtain⟨z,y,xs,r,g,es,ep,e,c⟩:=x;exact⟨z,y,xs,Paired.mapP r λp q z=>⟨z.1,j _ _ z.2.1,z.2.2⟩,g,es,ep,k _ _ (.inl rfl) e,c⟩
 |set S n=>obtain⟨g,es,ep,t,e,c⟩:=x;exact⟨g,es,ep,t,k _ _ (.inl rfl) e,c⟩
 |ins C dx fs =>
  obtain⟨d,z,ne,e,mA,⟨od,es,ep,l,c⟩,r⟩:=x;exact⟨i _ d,z,ne,k _ _ (.inl rfl) e,mA,⟨od,es,ep,k _ _ (.inr d) l,c⟩,r⟩
 |own y=>obtain⟨g,e⟩:=x;exact⟨g,k _ _ (.inl rfl) e⟩
 |xd fs=>obtain⟨mA,⟨od,es,ep,e,c⟩,r⟩:=x;exact⟨mA,⟨od,es,ep,k _ _ (.inl rfl) e,c⟩,r⟩
 |rng lo hi=>obtain⟨t,u,v,e⟩:=x;exact⟨t,u,v,k _ _ (.inl rfl) e⟩
 |frz g u ih=>obtain⟨e,q⟩:=x;exact⟨k _ _ (.inl rfl) e,ih q⟩
 |tbl ps =>
  have e:h.get? a=some {cls:=.none,data:=.fields ps}:=x;show h'.get? a=some {cls:=.none,data:=.fields ps};exact k a _ (.inl rfl) e
 |met f y =>
  have e:h.get? a=some (PySem.W.methodObj (.ref f) (.ref y)):=x;show h'.get? a=some (PySem.W.methodObj (.ref f) (.ref y));exact k a _ (.inl rfl) e
 |ext φ=>obtain⟨p,⟨o,e⟩,st⟩:=x;exact⟨st _ _ p λo q=>k _ _ (.inl rfl) q,⟨o,k _ _ (.inl rfl) e⟩,st⟩
theorem HOk.lt(x:HOk P w H h)(e:H a=some o):a<h.objs.size:=(x a o e).lt
theorem HOk.fresh(x:HOk P w H h)(e:h.objs.size<=a):H a=none:=by
 cases q:H a with
 |none=>rfl
 |some u=>exact absurd (Nat.lt_of_lt_of_le (x.lt q) e) (Nat.lt_irrefl _)
theorem HOk.kept(x:HOk P w H h)(k:∀b u,h.get? b=some u->h'.get? b=some u):HOk P w H h':=λa o e =>
 (x a o e).stay (λb u _ q=>k b u q) (λ_ q=>q) λ_ _ q=>q
theorem HOk.laid(x:HOk P w H h)(k:∀b u,h.get? b=some u->h'.get? b=some u)(hp:h.objs.size<=a)(new:ObjOk P w (upd H a o) h' a o):HOk P w (upd H a o) h':=λb u e=>by
 have d:=x.fresh hp;by_cases hb:b=a
 .subst hb;rw[A0]at e;cases e;exact new
 .rw[A2 hb]at e;exact(x b u e).stay (λc v _ q=>k c v q) (λc q=>by rw[A2 (A6 q d)];exact q) λc xs q=>by rw[A2 (A6 q d)];exact q
end
def Rd(H:Hp)(a:Addr)(u:HO):Prop:=H a=some u∨∃o,H a=some (.frz o u)
theorem Rd.ok{P:Program}{w:World}{H:Hp}{h:Heap}{a:Addr}{u:HO}(r:Rd H a u)(x:HOk P w H h):ObjOk P w H h a u:=by
 rcases r with r|⟨o,r⟩
 .exact x a u r
 .obtain⟨_,q⟩:=x a _ r;exact q
def Mut:Option HO->Prop
 |some (.lst _)=>True
 |some (.dK _)=>True
 |some (.dT _)=>True
 |some (.set _ _)=>True
 |some (.ins _ _ _)=>True
 |some (.ext _)=>True
 |_=>False
section
variable {P:Program}{w:World}{H:Hp}{h h':Heap}{x e:Addr}{o':HO}
theorem HOk.write(ok:HOk P w H h)(g:Mut (H x))(j:e=x∨H e=some (.own x))(k:∀b u,b≠e->h.get? b=some u->h'.get? b=some u)(i:∃u,h'.get? e=some u)
  (new:ObjOk P w (upd H x o') h' x o'):HOk P w (upd H x o') h':=λb u q=>by
 have d:∀c y,H c=some (.own y)->c≠x:=λc y r z=>by subst z;rw[r]at g;exact g
 have f:∀c xs,H c=some (.tup xs)->c≠x:=λc xs r z=>by subst z;rw[r]at g;exact g
 by_cases hb:b=x
 .subst hb;rw[A0]at q;cases q;exact new
 .rw[A2 hb]at q;by_cases a:b=e
  .have q':H b=some (.own x):=by
    rcases j with z|z
    .exact absurd (a.trans z) hb
    .rw[a];exact z
   rw[q]at q';cases q';obtain⟨v,l⟩:=i;exact⟨v,by rw[a];exact l⟩
  .refine(ok b u q).stay (λc v hc r=>k c v ?_ r) (λc r=>by rw[A2 (d c b r)];exact r) λc xs r=>by rw[A2 (f c xs r)];exact r
   rcases hc with rfl|hc
   .exact a
   .rintro rfl;rcases j with z|z
    .exact d c b hc z
    .rw[hc]at z;cases z;exact hb rfl
end
structure Un(fs ex:List Addr)(H H':Hp)(h h':Heap):Prop where
 keep:∀b o,h.get? b=some o->H b=none->b∉fs->b∉ex->h'.get? b=some o
 slot:∀b o,h.get? b=some o->H b=none->b∈fs->b∉ex->∃sl,h'.get? b=some {o with slots:=sl}
 free:∀b o,h.get? b=some o->H b=none->b∉ex->H' b=none
 there:∀b o,h.get? b=some o->b∉ex->∃o',h'.get? b=some o'
 tups:∀b xs,H b=some (.tup xs)->H' b=some (.tup xs)
 frzs:∀b o u,H b=some (.frz o u)->H' b=some (.frz o u)
 tbls:∀b ps,H b=some (.tbl ps)->∃more,H' b=some (.tbl (ps++more))
section
variable {fs fs' ex ex':List Addr}{H H1 H2:Hp}{h h1 h2 h':Heap}{a x e:Addr}{o:HO}
theorem Un.any(u:Un fs ex H H1 h h1){b:Addr}{a:Obj}(q:h.get? b=some a)(n:H b=none)(c:b∉ex):∃sl,h1.get? b=some {a with slots:=sl}:=by
 by_cases hb:b∈fs
 .exact u.slot b a q n hb c
 .exact⟨a.slots,u.keep b a q n hb c⟩
theorem Un.kept(k:∀b u,h.get? b=some u->h'.get? b=some u):Un fs ex H H h h' :=
 ⟨λb a q _ _ _=>k b a q,λb a q _ _ _=>⟨a.slots,k b a q⟩,λ_ _ _ n _=>n,λb a q _=>⟨a,k b a q⟩,λ_ _ q=>q,λ_ _ _ q=>q,λ_ ps q=>⟨#[],by rw[q];simp⟩⟩
theorem Un.refl:Un fs ex H H h h:=Un.kept λ_ _ q=>q
theorem Un.laid(k:∀b u,h.get? b=some u->h'.get? b=some u)(hp:h.objs.size<=a)(c:H a=none):Un fs ex H (upd H a o) h h' where
 keep:=λb u q _ _ _=>k b u q
 slot:=λb u q _ _ _=>⟨u.slots,k b u q⟩
 free:=λb u q n _=>by rw[A2 (Nat.ne_of_lt (Nat.lt_of_lt_of_le (Heap.lt_size q) hp))];exact n
 there:=λb u q _=>⟨u,k b u q⟩
 tups:=λb xs q=>by rw[A2 (A6 q c)];exact q
 frzs:=λb u xs q=>by rw[A2 (A6 q c)];exact q
 tbls:=λb ps q=>⟨#[],by rw[A2 (A6 q c),q];simp⟩
theorem Un.write(c:Mut (H x))(i:e=x∨H e=some (.own x))(k:∀b u,b≠e->h.get? b=some u->h'.get? b=some u)(f:∃u,h'.get? e=some u):Un fs ex H (upd H x o) h h':=by
 have g:∀b,H b=none->b≠x:=λb n z=>by subst z;rw[n]at c;exact c
 have hb:∀b,H b=none->b≠e:=λb n z=>by
  subst z;rcases i with r|r
  .exact g b n r
  .rw[n]at r;cases r
 have d:∀b u,H b=some u->¬Mut (some u)->b≠x:=λb u q nm z=>by subst z;rw[q]at c;exact nm c
 refine⟨λb u q n _ _=>k b u (hb b n) q,λb u q n _ _=>⟨u.slots,k b u (hb b n) q⟩,λb u q n _=>by rw[A2 (g b n)];exact n,λb u q _=>?_,
  λb xs q=>by rw[A2 (d b _ q λz=>z)];exact q,λb u xs q=>by rw[A2 (d b _ q λz=>z)];exact q,λb ps q=>⟨#[],by rw[A2 (d b _ q λz=>z),q];simp⟩⟩
 by_cases a:b=e
 .subst a;exact f
 .exact⟨u,k b u a q⟩
end
noncomputable def trk(h:Heap)(H:Hp):List Addr:=(List.range h.objs.size).filter λa=>(H a).isSome
noncomputable def a4P(h:Heap)(H:Hp):Heap:=PySem.W.hideAll h (trk h H)
theorem a9y(h:Heap)(H:Hp):(a4P h H).objs.size=h.objs.size:=PySem.W.hideAll_size _ _
theorem b1X{h:Heap}{H:Hp}{b:Addr}{o:Obj}(e:h.get? b=some o)(n:H b=none):(a4P h H).get? b=some o :=
 PySem.W.hideAll_get _ e λa=>by
  have q:(H b).isSome=true:=(List.mem_filter.mp a).2;rw[n]at q;simp at q
theorem b3R{h:Heap}{H:Hp}{b:Addr}{o:Obj}(e:(a4P h H).get? b=some o):h.get? b=some o/\H b=none:=by
 have a:h.get? b=some o:=PySem.W.of_hideAll (trk h H) e;refine⟨a,?_⟩;cases q:H b with
 |none=>rfl
 |some x =>
  have c:b∈trk h H:=List.mem_filter.mpr ⟨List.mem_range.mpr (Heap.lt_size a),by simp[q]⟩;have z:(a4P h H).get? b=none:=PySem.W.hideAll_none (trk h H) c;rw[z]at e;cases e
noncomputable def b4z(g h:Heap)(L:Addr):List (Addr×Obj):=(List.range h.objs.size).filterMap λa=>if a=L∨(g.get? a).isSome=true then none else(h.get? a).map λo=>(a,o)
noncomputable def rest(g h:Heap)(L d:Addr):List (Addr×Obj):=(b4z g h L).filter λp=>decide (p.1≠d)
structure Mod(K:PySem.W.Frag)(mg:Str->Option Value)(base:Heap):Prop where
 kin:K.In base
 glob:base.Ns mainGlobals mg
 blt:∃mb,base.Ns builtinsNs mb/\∀x:Str,x≠"__name__"->mb x=bootBuiltins x
 nolimit:base.NoLimit
structure Cx where
 prog:Program
 w:World
 K:PySem.W.Frag
 mg:Str->Option Value
 base:Heap
 A:Around
 N:List Str
 s₀:Shared
 H₀:Hp
 env:Env
 outer:List Env
 stack:List Env
 ex:List Addr
 fn:Str->Bool
 calm:Bool
 pn:List (Addr×Obj)
 xe:Value->Shared->Prop
noncomputable def frs(l:List Env):List Addr:=l.filterMap (·.frame)
noncomputable abbrev Cx.fs(X:Cx):List Addr:=frs X.outer
def Vis(sc:Scope)(x:Str):Prop:=sc.names.lookup x=some .local∨sc.names.lookup x=some .cell∨sc.names.lookup x=some .free
def Loc(sc:Scope)(x:Str):Prop:=sc.names.lookup x=some .local∨sc.names.lookup x=some .cell
def b7R(env:Env)(h:Heap)(m:Str->Option Value)(x:Str)(u:Value):Prop :=
 (env.kindOf x=some .local/\m x=some u)∨((env.kindOf x=some .cell∨env.kindOf x=some .free)/\∃c,env.cells.lookup x=some c/\h.IsCell c (some u))
structure Cx.Ok(X:Cx):Prop where
 mod:Mod X.K X.mg X.base
 kind:X.env.scope.kind=.function
 glob:X.env.globals=mainGlobals
 blt:X.env.builtins=builtinsNs
 above:X.s₀.heap.objs.size<=X.env.locals
 inj:∀x y c,X.env.cells.lookup x=some c->X.env.cells.lookup y=some c->x=y
 has:∀x,(X.env.kindOf x=some .cell∨X.env.kindOf x=some .free)->∃c,X.env.cells.lookup x=some c
 cab:∀x c,X.fn x=true->X.env.cells.lookup x=some c->X.s₀.heap.objs.size<=c
 hd:X.calm=true->X.A.handled=none
 frames:X.A.frames=some X.stack
 stk:X.stack=X.outer∨(X.stack=X.env::X.outer/\X.env.frame=some X.env.locals)
 exf:∀b∈X.ex,b≠X.env.locals/\∀x c,X.env.cells.lookup x=some c->c≠b
 bs:∀b o,X.base.get? b=some o->X.s₀.heap.get? b=some o/\X.H₀ b=none
 bsz:X.base.objs.size<=X.s₀.heap.objs.size
 noex:∀b o,X.base.get? b=some o->b∉X.ex
 exfs:∀b∈X.ex,b∉X.fs
 funs:X.s₀.heap.FunFrames X.base X.outer
 frf:∀b∈X.fs,X.H₀ b=none
structure Inv(X:Cx)(pins:List (Addr×Obj))(σ:List (Option V))(H:Hp)(s:Shared):Prop where
 ok:X.Ok
 os:s.os=X.s₀.os
 bare:AllBare s.gens
 base:Un X.fs X.ex X.H₀ H X.s₀.heap s.heap
 loc:∃m,s.heap.Ns X.env.locals m/\∀(i:Nat) (x:Str) (v:V),X.N[i]?=some x->σ[i]?=some (some v)->Vis X.env.scope x->∃u,RelV v u/\b7R X.env s.heap m x u
 cell:∀x c,X.env.cells.lookup x=some c->∃v,s.heap.IsCell c v
 free:H X.env.locals=none
 freeC:∀x c,X.env.cells.lookup x=some c->H c=none
 pin:∀p∈X.pn++pins,s.heap.get? p.1=some p.2/\H p.1=none/\p.1≠X.env.locals/\p.1∉X.fs/\∀v,p.2.data≠.cell v
 hok:HOk X.prog X.w H s.heap
 len:σ.length=X.N.length
section
variable {X:Cx}{pins:List (Addr×Obj)}{σ:List (Option V)}{H H':Hp}{s:Shared}{h':Heap}
theorem Cx.Ok.nofr(ok:X.Ok){b:Addr}{o:Obj}(e:X.base.get? b=some o):b∉X.fs:=λhb=>by
 have:=(ok.funs.mem hb).1;rw[e]at this;cases this
theorem Inv.bs(I:Inv X pins σ H s):∀b o,X.base.get? b=some o->s.heap.get? b=some o/\H b=none:=λb o e =>
 ⟨I.base.keep b o (I.ok.bs b o e).1 (I.ok.bs b o e).2 (I.ok.nofr e) (I.ok.noex b o e),I.base.free b o (I.ok.bs b o e).1 (I.ok.bs b o e).2 (I.ok.noex b o e)⟩
theorem Inv.bk(I:Inv X pins σ H s):∀b o,X.base.get? b=some o->s.heap.get? b=some o:=λb o e=>(I.bs b o e).1
theorem Inv.mod(I:Inv X pins σ H s):Mod X.K X.mg X.base:=I.ok.mod
theorem Inv.kIn(I:Inv X pins σ H s):X.K.In s.heap:=I.ok.mod.kin.keeps I.bk
theorem Inv.lt(I:Inv X pins σ H s):X.env.locals<s.heap.objs.size:=let ⟨_,hn,_⟩:=I.loc;hn.lt
theorem Inv.sz(I:Inv X pins σ H s):X.s₀.heap.objs.size<=s.heap.objs.size:=Nat.le_trans I.ok.above (Nat.le_of_lt I.lt)
theorem Inv.nofs(I:Inv X pins σ H s){a:Addr}(h:s.heap.objs.size<=a):a∉X.fs:=λhb=>by
 obtain⟨_,o,b,_⟩:=I.ok.funs.mem hb;exact absurd (Nat.lt_of_lt_of_le (Heap.lt_size b) (Nat.le_trans I.sz h)) (Nat.lt_irrefl _)
theorem Inv.cne(I:Inv X pins σ H s):∀x c,X.env.cells.lookup x=some c->c≠X.env.locals:=λx c e z=>by
 obtain⟨v,o,d,hd⟩:=I.cell x c e;obtain⟨m,⟨o',es,ep,b,a,_⟩,_⟩:=I.loc;rw[z,b]at d;cases d;rw[a]at hd;cases hd
theorem Inv.funs(I:Inv X pins σ H s):s.heap.FunFrames X.base X.outer:=by
 have all:∀(l:List Env),(∀b∈frs l,b∈X.fs)->X.s₀.heap.FunFrames X.base l->s.heap.FunFrames X.base l:=by
  intro l;induction l with
  |nil=>intro _ _;trivial
  |cons env r ih =>
   intro hs hl;obtain⟨d,⟨L,o,hf,f,c,hd⟩,a⟩:=hl;have hL:L∈X.fs:=hs L (by unfold frs;rw[List.filterMap_cons,hf];exact List.mem_cons_self);obtain⟨sl,e⟩:=I.base.slot L o c (I.ok.frf L hL) hL λz=>I.ok.exfs L z hL;exact⟨d,⟨L,_,hf,f,e,hd⟩,ih (λb hb=>hs b (by unfold frs;rw[List.filterMap_cons,hf];exact List.mem_cons_of_mem _ hb)) a⟩
 exact all X.outer (λ_ hb=>hb) I.ok.funs
theorem Inv.stack(I:Inv X pins σ H s):s.heap.FunFrames X.base X.stack:=by
 rcases I.ok.stk with e|⟨e,hf⟩
 .rw[e];exact I.funs
 .rw[e];obtain⟨m,a,_⟩:=I.loc;refine .cons (by rw[I.ok.kind];decide) hf a ?_ I.funs;exact Heap.get?_none_of_le (Nat.le_trans I.ok.bsz I.ok.above)
theorem Inv.stkSub(I:Inv X pins σ H s):∀b∈frs X.stack,b∈X.env.locals::X.fs:=λb hb=>by
 rcases I.ok.stk with e|⟨e,hf⟩
 .rw[e]at hb;exact List.mem_cons_of_mem _ hb
 .rw[e]at hb;unfold frs at hb;rw[List.filterMap_cons,hf]at hb;exact hb
theorem Inv.stkFree(I:Inv X pins σ H s):∀b∈frs X.stack,H b=none:=λb hb=>by
 rcases List.mem_cons.mp (I.stkSub b hb)with e|hb
 .rw[e];exact I.free
 .obtain⟨_,o,ho,_⟩:=I.ok.funs.mem hb;exact I.base.free b o ho (I.ok.frf b hb) λz=>I.ok.exfs b z hb
theorem Inv.step{g':Array GenState}{t':Nat}{d':Drawn}{ch:List Addr}(I:Inv X pins σ H s)
  (g:∀b∈ch,(b∈X.ex∨X.s₀.heap.objs.size<=b)/\b≠X.env.locals/\(∀x c,X.env.cells.lookup x=some c->c≠b)/\∀p∈X.pn++pins,p.1≠b)
  (keep:∀b o,b≠X.env.locals->b∉X.fs->b∉ch->s.heap.get? b=some o->H b=none->h'.get? b=some o)
  (slot:∀b o,b≠X.env.locals->b∈X.fs->b∉ch->s.heap.get? b=some o->H b=none->∃sl,h'.get? b=some {o with slots:=sl}) (free:∀b o,b∉ch->s.heap.get? b=some o->H b=none->H' b=none)
  (there:∀b o,b∉ch->s.heap.get? b=some o->∃o',h'.get? b=some o')
  (tups:∀b xs,H b=some (.tup xs)->H' b=some (.tup xs)) (frzs:∀b o u,H b=some (.frz o u)->H' b=some (.frz o u)) (tbls:∀b ps,H b=some (.tbl ps)->∃more,H' b=some (.tbl (ps++more)))
  (ns:∀m,s.heap.Ns X.env.locals m->h'.Ns X.env.locals m) (hok:HOk X.prog X.w H' h') (E:AllBare g') :
  Inv X pins σ H' {s with heap:=h',gens:=g',drawn:=d',toks:=t'}:=by
 have B:∀b o,X.s₀.heap.get? b=some o->b≠X.env.locals:=λb o e=>Nat.ne_of_lt (Nat.lt_of_lt_of_le (Heap.lt_size e) I.ok.above);have t:∀b o,X.s₀.heap.get? b=some o->b∉X.ex->b∉ch:=λb o e a hb=>by
  rcases(g b hb).1 with z|z
  .exact a z
  .exact absurd (Nat.lt_of_lt_of_le (Heap.lt_size e) z) (Nat.lt_irrefl _)
 have f:∀x c,X.env.cells.lookup x=some c->∀v,s.heap.IsCell c v->h'.IsCell c v:=λx c e v ⟨o,y,hd⟩=>by
  have h:c∉ch:=λz=>(g c z).2.2.1 x c e rfl;by_cases hc:c∈X.fs
  .obtain⟨sl,q⟩:=slot c o (I.cne x c e) hc h y (I.freeC x c e);exact⟨_,q,hd⟩
  .exact⟨o,keep c o (I.cne x c e) hc h y (I.freeC x c e),hd⟩
 refine⟨I.ok,I.os,E,⟨λb o e n hb a=>?_,λb o e n hb a=>?_,λb o e n a=>?_,λb o e a=>?_,λb xs e=>tups b xs (I.base.tups b xs e),λb o xs e=>frzs b o xs (I.base.frzs b o xs e),λb ps e=>?_⟩,?_,λx c e=>?_,?_,λx c e=>?_,λp hp=>?_,hok,I.len⟩
 .exact keep b o (B b o e) hb (t b o e a) (I.base.keep b o e n hb a) (I.base.free b o e n a)
 .obtain⟨sl,j⟩:=I.base.slot b o e n hb a;obtain⟨C,A⟩:=slot b _ (B b o e) hb (t b o e a) j (I.base.free b o e n a);exact⟨C,A⟩
 .obtain⟨o',j⟩:=I.base.there b o e a;exact free b o' (t b o e a) j (I.base.free b o e n a)
 .obtain⟨o',j⟩:=I.base.there b o e a;exact there b o' (t b o e a) j
 .obtain⟨m1,j⟩:=I.base.tbls b ps e;obtain⟨F,A⟩:=tbls b _ j;exact⟨m1++F,by rw[A,Array.append_assoc]⟩
 .obtain⟨m,hn,hl⟩:=I.loc;refine⟨m,ns m hn,λi x v j A D=>?_⟩;obtain⟨u,r,l⟩:=hl i x v j A D;refine⟨u,r,?_⟩;rcases l with l|⟨k,c,e,z⟩
  .exact .inl l
  .exact .inr ⟨k,c,e,f x c e _ z⟩
 .obtain⟨v,z⟩:=I.cell x c e;exact⟨v,f x c e v z⟩
 .obtain⟨m,⟨o,_,_,y,_⟩,_⟩:=I.loc;exact free _ o (λz=>(g _ z).2.1 rfl) y I.free
 .obtain⟨v,o,y,hd⟩:=I.cell x c e;exact free c o (λz=>(g c z).2.2.1 x c e rfl) y (I.freeC x c e)
 .obtain⟨e,n,ne,nf,d⟩:=I.pin p hp;have h:p.1∉ch:=λz=>(g p.1 z).2.2.2 p hp rfl;exact⟨keep p.1 p.2 ne nf h e n,free p.1 p.2 h e n,ne,nf,d⟩
theorem Inv.un{t':Nat}(I:Inv X pins σ H s)(u:Un X.fs [] H H' s.heap h')(hok:HOk X.prog X.w H' h'):Inv X pins σ H' {s with heap:=h',toks:=t'}:=by
 obtain⟨m,⟨o,es,ep,f,r⟩,_⟩:=id I.loc;obtain⟨sl,hL⟩:=u.any f I.free (by simp);exact I.step (g':=s.gens) (d':=s.drawn) (ch:=[]) (λ_ z=>nomatch z) (λb o _ hb _ e n=>u.keep b o e n hb (by simp)) (λb o _ hb _ e n=>u.slot b o e n hb (by simp)) (λb o _ e n=>u.free b o e n (by simp)) (λb o _ e=>u.there b o e (by simp)) u.tups u.frzs u.tbls (λm' g=>by
  obtain⟨o',c,d,a,h⟩:=g;rw[f]at a;cases a;exact⟨_,c,d,hL,h⟩) hok I.bare
theorem Inv.call{g':Array GenState}{t':Nat}{d':Drawn}{ch:List Addr}(I:Inv X pins σ H s)(u:Un (frs X.stack) ch H H' s.heap h')(hok:HOk X.prog X.w H' h')(i:AllBare g')
  (d:∀b∈ch,(b∈X.ex∨X.s₀.heap.objs.size<=b)/\b≠X.env.locals/\(∀x c,X.env.cells.lookup x=some c->c≠b)/\∀p∈X.pn++pins,p.1≠b) :
  Inv X pins σ H' {s with heap:=h',gens:=g',drawn:=d',toks:=t'}:=by
 obtain⟨m,⟨o,es,ep,h,r⟩,_⟩:=id I.loc;obtain⟨sl,hL⟩:=u.any h I.free λz=>(d _ z).2.1 rfl;exact I.step (ch:=ch) d (λb o hL hb hc e n=>u.keep b o e n (λz=>(List.mem_cons.mp (I.stkSub b z)).elim hL hb) hc) (λb o _ _ hc e n=>u.any e n hc) (λb o hc e n=>u.free b o e n hc) (λb o hc e=>u.there b o e hc) u.tups u.frzs u.tbls (λm' j=>by
  obtain⟨o',f,g,a,k⟩:=j;rw[h]at a;cases a;exact⟨_,f,g,hL,k⟩) hok i
theorem Inv.turned{t':Nat}{it:Addr}(I:Inv X pins σ H s)(k:∀b o,b≠it->s.heap.get? b=some o->h'.get? b=some o)(g:H it=none)(hL:it≠X.env.locals)
  (h1:it∈X.ex∨X.s₀.heap.objs.size<=it) (h2:∀x c,X.env.cells.lookup x=some c->c≠it) (f:∀p∈X.pn++pins,p.1≠it):Inv X pins σ H {s with heap:=h',toks:=t'}:=by
 have a:∀b u,H b=some u->b≠it:=λb u e z=>by rw[z,g]at e;cases e
 refine I.step (g':=s.gens) (d':=s.drawn) (ch:=[it]) (λb hb=>?_) (λb o _ _ hc e _=>k b o (λz=>hc (by simp[z])) e) (λb o _ _ hc e _=>⟨o.slots,k b o (λz=>hc (by simp[z])) e⟩) (λ_ _ _ _ n=>n)
  (λb o hc e=>⟨o,k b o (λz=>hc (by simp[z])) e⟩) (λ_ _ e=>e) (λ_ _ _ e=>e) (λb ps e=>⟨#[],by rw[e];simp⟩) (λm d=>?_) (λb u e=>?_) I.bare
 .have e:b=it:=by simpa using hb
  subst e;exact⟨h1,hL,h2,f⟩
 .obtain⟨o,es,ep,ho,r⟩:=d;exact⟨o,es,ep,k _ o (Ne.symm hL) ho,r⟩
 .refine(I.hok b u e).stay (λc v hc q=>k c v ?_ q) (λ_ q=>q) λ_ _ q=>q;rcases hc with z|z
  .rw[z];exact a b u e
  .exact a c _ z
theorem Inv.tok(I:Inv X pins σ H s)(t:Nat):Inv X pins σ H {s with toks:=t}:=I.un (h':=s.heap) (t':=t) Un.refl I.hok
theorem Inv.kept{t':Nat}(I:Inv X pins σ H s)(k:∀b u,s.heap.get? b=some u->h'.get? b=some u):Inv X pins σ H {s with heap:=h',toks:=t'}:=I.un (Un.kept k) (I.hok.kept k)
theorem Inv.laid{a:Addr}{o:HO}{t':Nat}(I:Inv X pins σ H s)(k:∀b u,s.heap.get? b=some u->h'.get? b=some u)(hp:s.heap.objs.size<=a)(new:ObjOk X.prog X.w (upd H a o) h' a o) :
  Inv X pins σ (upd H a o) {s with heap:=h',toks:=t'}:=I.un (Un.laid k hp (I.hok.fresh hp)) (I.hok.laid k hp new)
theorem Inv.write{x e:Addr}{o:HO}{t':Nat}(I:Inv X pins σ H s)(d:Mut (H x))(c:e=x∨H e=some (.own x))(k:∀b u,b≠e->s.heap.get? b=some u->h'.get? b=some u)(a:∃u,h'.get? e=some u)
  (new:ObjOk X.prog X.w (upd H x o) h' x o):Inv X pins σ (upd H x o) {s with heap:=h',toks:=t'}:=I.un (Un.write d c k a) (I.hok.write d c k a new)
theorem Inv.weak{σ':List (Option V)}(I:Inv X pins σ H s)(hl:σ'.length=σ.length)(w:∀(i:Nat) v,σ'[i]?=some (some v)->σ[i]?=some (some v)):Inv X pins σ' H s :=
 ⟨I.ok,I.os,I.bare,I.base,let ⟨m,hn,hl'⟩:=I.loc;⟨m,hn,λi x v a c b=>hl' i x v a (w i v c) b⟩,I.cell,I.free,I.freeC,I.pin,I.hok,hl.trans I.len⟩
theorem Inv.pins_of{pins':List (Addr×Obj)}(I:Inv X pins σ H s)(h:∀p∈pins',s.heap.get? p.1=some p.2/\H p.1=none/\p.1≠X.env.locals/\p.1∉X.fs/\∀v,p.2.data≠.cell v):Inv X pins' σ H s :=
 ⟨I.ok,I.os,I.bare,I.base,I.loc,I.cell,I.free,I.freeC,λp hp=>(List.mem_append.mp hp).elim (λz=>I.pin p (List.mem_append_left _ z)) (h p),I.hok,I.len⟩
theorem a5L{N:List Str}(d:N.Nodup){i j:Nat}{x:Str}(a:N[i]?=some x)(b:N[j]?=some x):i=j:=by
 obtain⟨h1,c⟩:=List.getElem?_eq_some_iff.mp a;obtain⟨h2,e⟩:=List.getElem?_eq_some_iff.mp b;exact(List.getElem_inj d).mp (c.trans e.symm)
theorem a3z{M:Model}{A:Around}{E:Value->Shared->Prop}{i:Nat}{x:Str}{v:V}{u:Value}{Q:Unit->Shared->Prop}(I:Inv X pins σ H s)(Y:X.N.Nodup)(hi:X.N[i]?=some x)(l:Loc X.env.scope x)(r:RelV v u)
  (h:∀s',Inv X pins (σ.set i (some v)) H s'->(∃a,Heap.SameBut a s.heap s'.heap/\(a=X.env.locals∨X.env.cells.lookup x=some a))->Q () s') (hf:X.fn x=true∨X.env.scope.names.lookup x=some .local:=by first|exact .inl rfl|exact .inr rfl|assumption):wpAny M A (storeName X.env x u) Q E s:=by
 obtain⟨m,R,hl⟩:=id I.loc;have G:(X.env.scope.kind==.class || (X.env.scope.kind==.module && X.env.locals != X.env.globals))=false:=by rw[I.ok.kind];rfl
 have hiσ:i<σ.length:=by rw[I.len];exact(List.getElem?_eq_some_iff.mp hi).1
 have cne:=I.cne;have f:∀{a:Addr}{h':Heap},(∃o,s.heap.get? a=some o/\H a=none)->Heap.SameBut a s.heap h'->HOk X.prog X.w H h':=λ{a h'} ha hs b ob e=>by
  obtain⟨_,_,t⟩:=ha;refine(I.hok b ob e).stay (λc L hc q=>(hs.2 c ?_).trans q) (λ_ q=>q) λ_ _ q=>q;rintro rfl;rcases hc with rfl|hc
  .rw[t]at e;cases e
  .rw[t]at hc;cases hc
 rcases l with C|C
 .refine wpAny_storeName_local C R (λh' U hs=>?_) G;obtain⟨oL,_,_,S,_⟩:=id R;refine h _ ⟨I.ok,I.os,I.bare,⟨λb o e n hb l=>?_,λb o e n hb l=>?_,I.base.free,λb o e l=>?_,I.base.tups,I.base.frzs,I.base.tbls⟩,⟨_,U,λj y O g B P=>?_⟩,λy c e=>?_,I.free,I.freeC,λp hp=>?_,f ⟨oL,S,I.free⟩ hs,by simpa using I.len⟩ ⟨_,hs,.inl rfl⟩
  .exact(hs.2 b (Nat.ne_of_lt (Nat.lt_of_lt_of_le (Heap.lt_size e) I.ok.above))).trans (I.base.keep b o e n hb l)
  .obtain⟨sl,g⟩:=I.base.slot b o e n hb l;exact⟨sl,(hs.2 b (Nat.ne_of_lt (Nat.lt_of_lt_of_le (Heap.lt_size e) I.ok.above))).trans g⟩
  .obtain⟨o',g⟩:=I.base.there b o e l;exact⟨o',(hs.2 b (Nat.ne_of_lt (Nat.lt_of_lt_of_le (Heap.lt_size e) I.ok.above))).trans g⟩
  .by_cases hj:j=i
   .subst hj;rw[hi]at g;cases g;rw[List.getElem?_set_self hiσ]at B;cases B;exact⟨u,r,.inl ⟨C,by simp⟩⟩
   .rw[List.getElem?_set_ne (Ne.symm hj)]at B;obtain⟨W,T,q⟩:=hl j y O g B P;refine⟨W,T,?_⟩;rcases q with⟨k,e⟩|⟨k,c,e,z⟩
    .refine .inl ⟨k,?_⟩;have:y≠x:=λe=>hj (a5L Y g (e ▸ hi));simp[this,e]
    .exact .inr ⟨k,c,e,z.sameBut hs (cne y c e)⟩
  .obtain⟨L,z⟩:=I.cell y c e;exact⟨L,z.sameBut hs (cne y c e)⟩
  .obtain⟨e,n,ne,nf,d⟩:=I.pin p hp;exact⟨(hs.2 p.1 ne).trans e,n,ne,nf,d⟩
 .have hfn:X.fn x=true:=by
   rcases hf with z|z
   .exact z
   .rw[z]at C;cases C
  obtain⟨c,hc⟩:=I.ok.has x (.inl C);obtain⟨L,z⟩:=I.cell x c hc;refine wpAny_storeName_cell I.ok.kind C hc z (λh' D hs=>?_);obtain⟨oc,F,J⟩:=id z;refine h {s with heap:=h'} ⟨I.ok,I.os,I.bare,⟨λb o e n hb l=>?_,λb o e n hb l=>?_,I.base.free,λb o e l=>?_,I.base.tups,I.base.frzs,I.base.tbls⟩,⟨m,R.sameBut hs (Ne.symm (cne x c hc)),λj y O g B P=>?_⟩,λy K e=>?_,I.free,I.freeC,λp hp=>?_,f ⟨oc,F,I.freeC x c hc⟩ hs,by simpa using I.len⟩ ⟨c,hs,.inr hc⟩
  .exact(hs.2 b (Nat.ne_of_lt (Nat.lt_of_lt_of_le (Heap.lt_size e) (I.ok.cab x c hfn hc)))).trans (I.base.keep b o e n hb l)
  .obtain⟨sl,g⟩:=I.base.slot b o e n hb l;exact⟨sl,(hs.2 b (Nat.ne_of_lt (Nat.lt_of_lt_of_le (Heap.lt_size e) (I.ok.cab x c hfn hc)))).trans g⟩
  .obtain⟨o',g⟩:=I.base.there b o e l;exact⟨o',(hs.2 b (Nat.ne_of_lt (Nat.lt_of_lt_of_le (Heap.lt_size e) (I.ok.cab x c hfn hc)))).trans g⟩
  .by_cases hj:j=i
   .subst hj;rw[hi]at g;cases g;rw[List.getElem?_set_self hiσ]at B;cases B;exact⟨u,r,.inr ⟨.inl C,c,hc,D⟩⟩
   .rw[List.getElem?_set_ne (Ne.symm hj)]at B;obtain⟨W,T,q⟩:=hl j y O g B P;refine⟨W,T,?_⟩;rcases q with q|⟨k,K,e,z'⟩
    .exact .inl q
    .refine .inr ⟨k,K,e,z'.sameBut hs ?_⟩;rintro rfl;exact hj (a5L Y g (I.ok.inj _ _ _ e hc ▸ hi))
  .by_cases hcc:K=c
   .subst hcc;exact⟨_,D⟩
   .obtain⟨w2,z2⟩:=I.cell y K e;exact⟨w2,z2.sameBut hs hcc⟩
  .obtain⟨e,n,ne,nf,d⟩:=I.pin p hp;refine⟨(hs.2 p.1 ?_).trans e,n,ne,nf,d⟩;intro q;rw[q,F]at e;have Z:oc=p.2:=Option.some.inj e;exact d L (by rw[<-Z];exact J)
theorem a2e{M:Model}{A:Around}{E:Value->Shared->Prop}{i:Nat}{x:Str}{v:V}{u:Value}{Q:Unit->Shared->Prop}(I:Inv X pins σ H s)(c:X.N.Nodup)(hi:X.N[i]?=some x)(a:Loc X.env.scope x)(r:RelV v u)
  (h:∀s',Inv X pins (σ.set i (some v)) H s'->Q () s') (hf:X.fn x=true∨X.env.scope.names.lookup x=some .local:=by first|exact .inl rfl|exact .inr rfl|assumption):wpAny M A (storeName X.env x u) Q E s :=
 a3z I c hi a r (λs' b _=>h s' b) hf
theorem Inv.call'{s':Shared}{ch:List Addr}(I:Inv X pins σ H s)(f:s'.os=s.os)(u:Un (frs X.stack) ch H H' s.heap s'.heap)(hok:HOk X.prog X.w H' s'.heap)(d:AllBare s'.gens)
  (a:∀b∈ch,(b∈X.ex∨X.s₀.heap.objs.size<=b)/\b≠X.env.locals/\(∀x c,X.env.cells.lookup x=some c->c≠b)/\∀p∈X.pn++pins,p.1≠b):Inv X pins σ H' s':=by
 obtain⟨h',g',d',t',o'⟩:=s';have e:o'=s.os:=f;subst e;exact I.call (g':=g') (t':=t') (d':=d') u hok d a
end
abbrev XK:=Value->Option Addr->Hp->Prop
abbrev St:=List (Option V)
abbrev VK:=V->Hp->Prop
abbrev TE:=St->Hp->VK->Prop
abbrev TT:=St->Hp->(Bool->Hp->Prop)->Prop
abbrev TA:=St->Hp->(List V->Hp->Prop)->Prop
structure Ends where
 nx:St->Hp->Prop
 rt:VK
 bk:St->Hp->Prop:=λ_ _=>False
 ct:St->Hp->Prop:=λ_ _=>False
abbrev TS:=Ends->St->Hp->Prop
def EP(X:Cx)(pins:List (Addr×Obj))(σ:St)(Q:VK)(u:Value)(s':Shared):Prop:=∃v H',Inv X pins σ H' s'/\RelV v u/\Q v H'
def TP(X:Cx)(pins:List (Addr×Obj))(σ:St)(Q:Bool->Hp->Prop)(b:Bool)(s':Shared):Prop:=∃H',Inv X pins σ H' s'/\Q b H'
def AP(X:Cx)(pins:List (Addr×Obj))(σ:St)(Q:List V->Hp->Prop)(us:List Value)(s':Shared):Prop:=∃vs H',Inv X pins σ H' s'/\Vals vs us/\Q vs H'
def SP(X:Cx)(pins:List (Addr×Obj))(D:Ends)(f:Flow)(s':Shared):Prop :=
 match f with
 |.next=>∃σ' H',Inv X pins σ' H' s'/\D.nx σ' H'
 |.brk=>∃σ' H',Inv X pins σ' H' s'/\D.bk σ' H'
 |.cont=>∃σ' H',Inv X pins σ' H' s'/\D.ct σ' H'
 |.ret u=>∃v σ' H',Inv X pins σ' H' s'/\RelV v u/\D.rt v H'
def PE(X:Cx)(e:Expr)(t:TE):Prop :=
 ∀(pins:List (Addr×Obj)) (s:Shared) (σ:St) (H:Hp) (Q:VK),Inv X pins σ H s->t σ H Q->wpAny (model X.prog X.w) X.A (eval e X.env) (EP X pins σ Q) X.xe s
def PT(X:Cx)(e:Expr)(t:TT):Prop :=
 ∀(pins:List (Addr×Obj)) (s:Shared) (σ:St) (H:Hp) (Q:Bool->Hp->Prop),Inv X pins σ H s->t σ H Q->wpAny (model X.prog X.w) X.A (isTrue e X.env (eval e X.env)) (TP X pins σ Q) X.xe s
def PW(X:Cx)(e:Expr)(t:TT):Prop :=
 ∀(whole:Sem Value) (pins:List (Addr×Obj)) (s:Shared) (σ:St) (H:Hp) (Q:Bool->Hp->Prop),Inv X pins σ H s->t σ H Q->wpAny (model X.prog X.w) X.A (isTrue e X.env whole) (TP X pins σ Q) X.xe s
theorem PW.pt{X:Cx}{e:Expr}{t:TT}(h:PW X e t):PT X e t:=h _
def PA(X:Cx)(es:List Expr)(t:TA):Prop :=
 ∀(pos:Pos) (pins:List (Addr×Obj)) (s:Shared) (σ:St) (H:Hp) (Q:List V->Hp->Prop),Inv X pins σ H s->t σ H Q->wpAny (model X.prog X.w) X.A (spliced (backTo pos (starEach es X.env))) (AP X pins σ Q) X.xe s
def PS(X:Cx)(st:Stmt)(t:TS):Prop :=
 ∀(pins:List (Addr×Obj)) (s:Shared) (σ:St) (H:Hp) (D:Ends),Inv X pins σ H s->t D σ H->wpAny (model X.prog X.w) X.A (exec st X.env) (SP X pins D) X.xe s
def PSs(X:Cx)(st:List Stmt)(t:TS):Prop :=
 ∀(pins:List (Addr×Obj)) (s:Shared) (σ:St) (H:Hp) (D:Ends),Inv X pins σ H s->t D σ H->wpAny (model X.prog X.w) X.A (execs st X.env) (SP X pins D) X.xe s
theorem thn{α:Type}{t:Sem α}{Q b:α->Shared->Prop}{M:Model}{A:Around}{E:Value->Shared->Prop}{s:Shared}(h:wpAny M A t Q E s)(c:∀a s,Q a s->b a s):wpAny M A t b E s:=wpAny_mono h c λ_ _ x=>x
section
variable {X:Cx}
def L8(i:Nat):TE:=λσ H Q=>∃v,σ[i]?=some (some v)/\Q v H
def tC(v:V):TE:=λ_ H Q=>Q v H
theorem b1f{i:Nat}{x:Str}{pos:Pos}(j:X.N[i]?=some x)(k:Vis X.env.scope x)(hd:(x==("__debug__" : Str))=false:=by decide)(d:(x==("__classdict__" : Str))=false:=by decide):PE X (.Name x pos) (L8 i):=by
 intro pins s σ H Q I h;obtain⟨v,e,h⟩:=h;obtain⟨m,f,hl⟩:=I.loc;obtain⟨u,r,l⟩:=hl i x v j e k;have fin:EP X pins σ Q u s:=⟨v,H,I,r,h⟩;rcases l with⟨b,g⟩|⟨b,c,hc,a⟩
 .exact wpAny_Name (wpAny_loadName_local I.ok.kind b f g fin) hd
 .rcases b with b|b
  .exact wpAny_Name (wpAny_loadName_cell I.ok.kind b hc a fin) hd
  .exact wpAny_Name (wpAny_loadName_free I.ok.kind b hc a fin d) hd
theorem b5M{i j pos}:PE X (.Constant (.int i) j pos) (tC (.int i)):=λ_ _ _ H _ I h=>wpAny_Constant_int ⟨.int i,H,I.tok _,⟨_,rfl⟩,h⟩
theorem b7n{b j pos}:PE X (.Constant (.bool b) j pos) (tC (.bl b)):=λ_ _ _ H _ I h=>Constant_bool ⟨.bl b,H,I,rfl,h⟩
theorem b5K{j pos}:PE X (.Constant .none j pos) (tC .non):=λ_ _ _ H _ I h=>Constant_none ⟨.non,H,I,rfl,h⟩
theorem b5H{x j pos}:PE X (.Constant (.str x) j pos) (tC (.str x)):=λ_ _ _ H _ I h=>Calls.Constant_str ⟨.str x,H,I.tok _,⟨_,rfl⟩,h⟩
def Gl(X:Cx)(x:Str):Prop:=X.env.kindOf x=some .globalImplicit
theorem a0w{E:Value->Shared->Prop}{pins:List (Addr×Obj)}{s:Shared}{σ:St}{H:Hp}{x:Str}{u:Value}{pos:Pos}{Q:Value->Shared->Prop}(I:Inv X pins σ H s)(a:Gl X x)(b:X.mg x=some u)(h:Q u s)
  (hd:(x==("__debug__" : Str))=false:=by decide):wpAny (model X.prog X.w) X.A (eval (.Name x pos) X.env) Q E s :=
 Calls.Name_function_global I.ok.kind a (Calls.loadGlobal_global (by rw[I.ok.glob];exact I.mod.glob.keeps I.bk) b h) hd
theorem a2E{E:Value->Shared->Prop}{pins:List (Addr×Obj)}{s:Shared}{σ:St}{H:Hp}{x:Str}{u:Value}{pos:Pos}{Q:Value->Shared->Prop}(I:Inv X pins σ H s)(c:Gl X x)(b:X.mg x=none)(d:bootBuiltins x=some u)(h:Q u s)
  (a:x≠"__name__":=by decide) (hd:(x==("__debug__" : Str))=false:=by decide):wpAny (model X.prog X.w) X.A (eval (.Name x pos) X.env) Q E s:=by
 obtain⟨e,h1,h2⟩:=I.mod.blt;exact Calls.Name_function_global I.ok.kind c (Calls.loadGlobal_builtin (by rw[I.ok.glob];exact I.mod.glob.keeps I.bk) b (by rw[I.ok.blt];exact h1.keeps I.bk) ((h2 x a).trans d) h) hd
theorem b3D{x:Str}{v:V}{u:Value}{pos:Pos}(a:Gl X x)(d:X.mg x=none)(b:bootBuiltins x=some u)(r:RelV v u)(c:x≠"__name__":=by decide)(hd:(x==("__debug__" : Str))=false:=by decide):PE X (.Name x pos) (tC v) :=
 λ_ _ _ H _ I h=>a2E I a d b ⟨v,H,I,r,h⟩ c hd
variable {a b:Expr}{ta tb:TE}{pos:Pos}
def PC(X:Cx)(op:CmpOp)(a b:Expr)(t:TE):Prop :=
 ∀(pins:List (Addr×Obj)) (s:Shared) (σ:St) (H:Hp) (Q:VK),Inv X pins σ H s->t σ H Q ->
  wpAny (model X.prog X.w) X.A (eval a X.env) (λv s₁=>wpAny (model X.prog X.w) X.A (eval b X.env) (λu s₂=>wpAny (model X.prog X.w) X.A (compareOp op v u) (EP X pins σ Q) X.xe s₂) X.xe s₁) X.xe s
def tB(t:TE):TT:=λσ H Q=>t σ H λx H1=>∃c,x=.bl c/\Q c H1
theorem b5O{c:CmpOp}{t:TE}(h:PC X c a b t)(h1:behindInMarks c b=false:=by first|exact nobehind _ (by decide) (by decide)|rfl):PE X (.Compare a [c] [b] pos) t:=λpins s σ H Q I hw=>wpAny_Compare1 (h pins s σ H Q I hw) h1
theorem b5w{e:CmpOp}{t:TE}(h:PC X e a b t)(h1:behindInMarks e b=false:=by first|exact nobehind _ (by decide) (by decide)|rfl):PT X (.Compare a [e] [b] pos) (tB t):=by
 intro pins s σ H Q I hw;refine wpAny_isTrue_Compare1 (thn (h pins s σ H _ I hw) λv s1 h1=>thn h1 λu s2 h2=>thn h2 λc j ⟨x,H1,g,i,f⟩=>?_) h1;obtain⟨d,rfl,q⟩:=f;cases i;exact wpAny_truthy_bool ⟨H1,g,q⟩
variable {tA tB':TT}{rest:List Expr}
def a8K(t u:TT):TT:=λσ H Q=>t σ H λc H1=>if c=true then u σ H1 Q else Q false H1
def tOr(t u:TT):TT:=λσ H Q=>t σ H λc H1=>if c=true then Q true H1 else u σ H1 Q
def a8I(t:TT):TT:=λσ H Q=>t σ H λc H1=>Q (!c) H1
theorem pw_and1(ha:PT X a tA):PW X (.BoolOp .And [a] pos) tA:=by
 intro b pins s σ H Q I h;refine isTrue_and (thn (ha pins s σ H Q I h) λc s1 e=>?_);cases c with
 |true=>exact isTrue_and_nil e
 |false=>exact e
theorem pw_or1(ha:PT X a tA):PW X (.BoolOp .Or [a] pos) tA:=by
 intro b pins s σ H Q I h;refine isTrue_or (thn (ha pins s σ H Q I h) λc s1 e=>?_);cases c with
 |false=>exact isTrue_or_nil e
 |true=>exact e
theorem pw_and(ha:PT X a tA)(hb:PW X (.BoolOp .And (b::rest) pos) tB'):PW X (.BoolOp .And (a::b::rest) pos) (a8K tA tB'):=by
 intro f pins s σ H Q I h;refine isTrue_and (thn (ha pins s σ H _ I h) λc s1 ⟨H1,e,d⟩=>?_);cases c with
 |true=>exact hb f pins s1 σ H1 Q e d
 |false=>exact⟨H1,e,d⟩
theorem pw_or(ha:PT X a tA)(hb:PW X (.BoolOp .Or (b::rest) pos) tB'):PW X (.BoolOp .Or (a::b::rest) pos) (tOr tA tB'):=by
 intro f pins s σ H Q I h;refine isTrue_or (thn (ha pins s σ H _ I h) λc s1 ⟨H1,e,d⟩=>?_);cases c with
 |true=>exact⟨H1,e,d⟩
 |false=>exact hb f pins s1 σ H1 Q e d
theorem b5v(ha:PT X a tA):PT X (.UnaryOp .Not a pos) (a8I tA):=by
 intro pins s σ H Q I h;exact isTrue_not (ha pins s σ H (λc H1=>Q (!c) H1) I h)
def a3y(ta tb:TE):TE:=λσ H Q=>ta σ H λx H1=>∃c,x=.bl c/\if c=true then tb σ H1 Q else Q (.bl false) H1
def a8H(ta tb:TE):TE:=λσ H Q=>ta σ H λx H1=>∃c,x=.bl c/\if c=true then Q (.bl true) H1 else tb σ H1 Q
def a3v(ta:TE):TE:=λσ H Q=>ta σ H λx H1=>∃c,x=.bl c/\Q (.bl (!c)) H1
theorem b5I{op}{t:TE}(h:PE X a t):PE X (.BoolOp op [a] pos) t:=λpins s σ H Q I hw=>BoolOp_one (h pins s σ H Q I hw)
theorem b5P(ha:PE X a ta)(hb:PE X (.BoolOp .And (b::rest) pos) tb):PE X (.BoolOp .And (a::b::rest) pos) (a3y ta tb):=by
 intro pins s σ H Q I h;refine BoolOp_and (thn (ha pins s σ H _ I h) λv s1 ⟨x,H1,e,f,d⟩=>?_);obtain⟨c,rfl,d⟩:=d;cases f;refine wpAny_truthy_bool ?_;cases c with
 |true=>exact hb pins s1 σ H1 Q e d
 |false=>exact⟨.bl false,H1,e,rfl,d⟩
theorem b7l(ha:PE X a ta)(hb:PE X (.BoolOp .Or (b::rest) pos) tb):PE X (.BoolOp .Or (a::b::rest) pos) (a8H ta tb):=by
 intro pins s σ H Q I h;refine BoolOp_or (thn (ha pins s σ H _ I h) λv s1 ⟨x,H1,e,f,d⟩=>?_);obtain⟨c,rfl,d⟩:=d;cases f;refine wpAny_truthy_bool ?_;cases c with
 |false=>exact hb pins s1 σ H1 Q e d
 |true=>exact⟨.bl true,H1,e,rfl,d⟩
theorem b5J(ha:PE X a ta):PE X (.UnaryOp .Not a pos) (a3v ta):=by
 intro pins s σ H Q I h;refine UnaryOp_ (thn (ha pins s σ H _ I h) λv s1 ⟨x,H1,d,e,b⟩=>?_);obtain⟨c,rfl,b⟩:=b;cases e;exact not_of (wpAny_truthy_bool ⟨.bl (!c),H1,d,rfl,b⟩)
def tIf(t:TT)(ta tb:TE):TE:=λσ H Q=>t σ H λc H1=>if c=true then ta σ H1 Q else tb σ H1 Q
theorem b1h{c:Expr}(hc:PT X c tA)(ha:PE X a ta)(hb:PE X b tb):PE X (.IfExp c a b pos) (tIf tA ta tb):=by
 intro pins s σ H Q I h;refine wpAny_IfExp (thn (hc pins s σ H _ I h) λd s1 ⟨H1,f,e⟩=>?_);cases d with
 |true=>exact ha pins s1 σ H1 Q f e
 |false=>exact hb pins s1 σ H1 Q f e
end
def SqL(K:PySem.W.Frag)(H:Hp)(a:Addr)(xs:List V):Prop :=
 Rd H a (.lst xs) ∨
  ∃(o:Obj) (its:Array Value) (n:Nat),K.lookup a=some o/\o.cls=.type "list"/\o.dict=none/\o.data=.seq its n/\its.size<=sizeLine/\Vals xs its.toList
def SqT(K:PySem.W.Frag)(H:Hp)(a:Addr)(xs:List V):Prop :=
 Rd H a (.tup xs) ∨
  ∃(o:Obj) (its:Array Value) (n:Nat),K.lookup a=some o/\o.cls=.type "tuple"/\o.data=.seq its n/\its.size<=sizeLine/\Vals xs its.toList
noncomputable def b7P:Value->Option V
 |.none=>some .non
 |.bool b=>some (.bl b)
 |.int i _=>some (.int i)
 |.str x _=>some (.str x)
 |.bytes b _=>some (.byt b)
 |.float b _=>some (.flt b)
 |.ref a=>some (.ref a)
 |.type n=>some (.ty n)
 |_=>none
theorem RelV.abs{x:V}{u:Value}(r:RelV x u):b7P u=some x:=by
 cases x with
 |non=>cases r;rfl
 |bl _=>cases r;rfl
 |int _=>obtain⟨t,rfl⟩:=r;rfl
 |str _=>obtain⟨t,rfl⟩:=r;rfl
 |byt _=>obtain⟨t,rfl⟩:=r;rfl
 |flt _=>obtain⟨t,rfl⟩:=r;rfl
 |ref _=>cases r;rfl
 |ty _=>cases r;rfl
theorem RelV.inj{x y:V}{u:Value}(r:RelV x u)(q:RelV y u):x=y:=Option.some.inj (r.abs.symm.trans q.abs)
theorem Vals.inj:∀{xs ys:List V}{us:List Value},Vals xs us->Vals ys us->xs=ys
 |_,_,_,.nil,.nil=>rfl
 |_,_,_,.cons r t,.cons r' t'=>by rw[r.inj r',Vals.inj t t']
section
variable {X:Cx}{pins:List (Addr×Obj)}{σ:St}{H:Hp}{s:Shared}{a:Addr}{xs ys:List V}
theorem SqL.of{K:PySem.W.Frag}(h:H a=some (.lst xs)):SqL K H a xs:=.inl (.inl h)
theorem SqT.of{K:PySem.W.Frag}(h:H a=some (.tup xs)):SqT K H a xs:=.inl (.inl h)
theorem Inv.list(I:Inv X pins σ H s)(h:SqL X.K H a xs):∃its:List Value,Vals xs its/\PlainL s.heap a its.toArray/\xs.length<=sizeLine:=by
 rcases h with h|⟨o,its,n,b,hc,hd,hs,c,r⟩
 .obtain⟨z,its,n,r,e⟩:=h.ok I.hok;exact⟨its,r,⟨_,n,e,rfl,rfl,rfl⟩,z⟩
 .refine⟨its.toList,r,⟨o,n,I.kIn a o b,hc,hd,by simpa using hs⟩,?_⟩;have e:=r.length;simp only[Array.length_toList]at e;omega
theorem Inv.tuple(I:Inv X pins σ H s)(h:SqT X.K H a xs):∃its:List Value,Vals xs its/\IsTup s.heap a its.toArray/\xs.length<=sizeLine:=by
 rcases h with h|⟨o,its,n,b,hc,hs,c,r⟩
 .obtain⟨z,its,r,p⟩:=h.ok I.hok;exact⟨its,r,p,z⟩
 .refine⟨its.toList,r,⟨o,I.kIn a o b,hc,n,by simpa using hs⟩,?_⟩;have e:=r.length;simp only[Array.length_toList]at e;omega
theorem Inv.list_inj(I:Inv X pins σ H s)(h:SqL X.K H a xs)(h':SqL X.K H a ys):xs=ys:=by
 obtain⟨its,r,⟨o,n,e,_,_,d⟩,_⟩:=I.list h;obtain⟨its',c,⟨o',f,b,_,_,d'⟩,_⟩:=I.list h';rw[e]at b;cases b;rw[d]at d';injection d' with d1 _
 have:its=its':=by simpa using congrArg Array.toList d1
 subst this;exact r.inj c
theorem Inv.tuple_inj(I:Inv X pins σ H s)(h:SqT X.K H a xs)(h':SqT X.K H a ys):xs=ys:=by
 obtain⟨its,r,⟨o,e,_,n,d⟩,_⟩:=I.tuple h;obtain⟨its',c,⟨o',b,_,f,d'⟩,_⟩:=I.tuple h';rw[e]at b;cases b;rw[d]at d';injection d' with d1 _
 have:its=its':=by simpa using congrArg Array.toList d1
 subst this;exact r.inj c
end
noncomputable abbrev Cx.wish(X:Cx)(E:Value->Shared->Prop):Cx:={X with xe:=E}
noncomputable abbrev Cx.nox(X:Cx):Cx:=X.wish λ_ _=>False
theorem Cx.Ok.wish{X:Cx}(ok:X.Ok)(E:Value->Shared->Prop):(X.wish E).Ok :=
 ⟨ok.mod,ok.kind,ok.glob,ok.blt,ok.above,ok.inj,ok.has,ok.cab,ok.hd,ok.frames,ok.stk,ok.exf,ok.bs,ok.bsz,ok.noex,ok.exfs,ok.funs,ok.frf⟩
theorem Cx.Ok.unwish{X:Cx}{E:Value->Shared->Prop}(ok:(X.wish E).Ok):X.Ok :=
 ⟨ok.mod,ok.kind,ok.glob,ok.blt,ok.above,ok.inj,ok.has,ok.cab,ok.hd,ok.frames,ok.stk,ok.exf,ok.bs,ok.bsz,ok.noex,ok.exfs,ok.funs,ok.frf⟩
section
variable {X:Cx}{pins:List (Addr×Obj)}{σ:St}{H:Hp}{s:Shared}{E:Value->Shared->Prop}
theorem Inv.wish(I:Inv X pins σ H s)(E:Value->Shared->Prop):Inv (X.wish E) pins σ H s:=⟨I.ok.wish E,I.os,I.bare,I.base,I.loc,I.cell,I.free,I.freeC,I.pin,I.hok,I.len⟩
theorem Inv.unwish(I:Inv (X.wish E) pins σ H s):Inv X pins σ H s:=⟨I.ok.unwish,I.os,I.bare,I.base,I.loc,I.cell,I.free,I.freeC,I.pin,I.hok,I.len⟩
theorem SP.unwish{D:Ends}{f:Flow}{s':Shared}(h:SP (X.wish E) pins D f s'):SP X pins D f s':=by
 cases f with
 |next=>obtain⟨σ',H',I,q⟩:=h;exact⟨σ',H',I.unwish,q⟩
 |brk=>obtain⟨σ',H',I,q⟩:=h;exact⟨σ',H',I.unwish,q⟩
 |cont=>obtain⟨σ',H',I,q⟩:=h;exact⟨σ',H',I.unwish,q⟩
 |ret u=>obtain⟨v,σ',H',I,r,q⟩:=h;exact⟨v,σ',H',I.unwish,r,q⟩
theorem PSs.nox{st:List Stmt}{t:TS}(h:PSs X.nox st t):PSs X st t:=λpins s σ H D I hw =>
 wpAny_mono (h pins s σ H D (I.wish _) hw) (λ_ _ q=>q.unwish) λ_ _ z=>False.elim z
end
section
variable {X:Cx}{st:Stmt}{rest:List Stmt}{t u:TS}{e:Expr}{te:TE}{pos:Pos}
def a3w:TS:=λD σ H=>D.nx σ H
def a6y(t u:TS):TS:=λD σ H=>t {D with nx:=u D} σ H
theorem b3i:PSs X [] a3w:=λ_ _ σ H _ I h=>wpAny_execs_nil ⟨σ,H,I,h⟩
theorem b0U(h1:PS X st t)(h2:PSs X rest u):PSs X (st::rest) (a6y t u):=by
 intro pins s σ H D I h;refine wpAny_execs_cons (thn (h1 pins s σ H {D with nx:=u D} I h) λf s1 q=>?_);cases f with
 |next =>
  obtain⟨σ',H',a,q⟩:=q;exact h2 pins s1 σ' H' D a q
 |ret v=>exact q
 |brk=>exact q
 |cont=>exact q
theorem b3h(h1:PS X st t):PSs X [st] t:=by
 intro pins s σ H D I h;refine wpAny_execs_cons (thn (h1 pins s σ H D I h) λf s1 q=>?_);cases f with
 |next=>exact wpAny_execs_nil q
 |ret v=>exact q
 |brk=>exact q
 |cont=>exact q
def b0n:TS:=λD σ H=>D.bk σ H
theorem b0Y:PS X (.Break pos) b0n:=λ_ _ σ H _ I h=>wpAny_Break ⟨σ,H,I,h⟩
theorem Inv.quiet{pins:List (Addr×Obj)}{σ:St}{H:Hp}{s:Shared}(I:Inv X pins σ H s):interactive X.env=false:=by simp[interactive,I.ok.kind]
def a3x(te:TE):TS:=λD σ H=>te σ H λ_ H1=>D.nx σ H1
theorem b3k(c:PE X e te)(hs:swapsWith e none pos.line X.env=pure false:=by rfl):PS X (.Expr e pos) (a3x te):=by
 intro pins s σ H D I h;exact wpAny_Expr_any (thn (c pins s σ H _ I h) λv s1 ⟨x,H1,a,d,b⟩=>⟨σ,H1,a,b⟩) I.quiet hs
def a6z(te:TE):TS:=λD σ H=>te σ H D.rt
theorem b5y(c:PE X e te):PS X (.Return (some e) pos) (a6z te):=by
 intro pins s σ H D I h;exact wpAny_Return_some (thn (c pins s σ H _ I h) λv s1 ⟨x,H1,a,d,b⟩=>⟨x,σ,H1,a,d,b⟩)
def a7G:TS:=λD _ H=>D.rt .non H
def a8J(c:TT)(t u:TS):TS:=λD σ H=>c σ H λb H1=>if b=true then t D σ H1 else u D σ H1
theorem b7j{c:Expr}{a b:List Stmt}{tc:TT}(hc:PT X c tc)(ha:PSs X a t)(hb:PSs X b u):PS X (.If c a b pos) (a8J tc t u):=by
 intro pins s σ H D I h;refine wpAny_If (thn (hc pins s σ H _ I h) λd s1 ⟨H1,f,e⟩=>?_);cases d with
 |true=>exact ha pins s1 σ H1 D f e
 |false=>exact hb pins s1 σ H1 D f e
end
abbrev TG:=V->St->Hp->(St->Hp->Prop)->Prop
abbrev TGs:=List V->St->Hp->(St->Hp->Prop)->Prop
def PG(X:Cx)(target:Expr)(t:TG):Prop :=
 ∀(pins:List (Addr×Obj)) (s:Shared) (σ:St) (H:Hp) (v:V) (u:Value) (Q:St->Hp->Prop),Inv X pins σ H s->RelV v u->t v σ H Q ->
  wpAny (model X.prog X.w) X.A (assign target X.env u) (λ_ s'=>∃σ' H',Inv X pins σ' H' s'/\Q σ' H') X.xe s
def PGs(X:Cx)(ts:List Expr)(t:TGs):Prop :=
 ∀(pins:List (Addr×Obj)) (s:Shared) (σ:St) (H:Hp) (vs:List V) (us:List Value) (Q:St->Hp->Prop),Inv X pins σ H s->Vals vs us->t vs σ H Q ->
  wpAny (model X.prog X.w) X.A (assignInOrder ((assignEach ts X.env).map (·.2)) us) (λ_ s'=>∃σ' H',Inv X pins σ' H' s'/\Q σ' H') X.xe s
abbrev b2B:=V->V->V->Hp->(Hp->Prop)->Prop
def b6S(X:Cx)(t:b2B):Prop :=
 ∀(pins:List (Addr×Obj)) (s:Shared) (σ:St) (H:Hp) (o i v:V) (ov iv u:Value) (Q:Hp->Prop),Inv X pins σ H s->RelV o ov->RelV i iv->RelV v u->t o i v H Q ->
  wpAny (model X.prog X.w) X.A (setItem ov iv u) (λ_ s'=>∃H',Inv X pins σ H' s'/\Q H') X.xe s
abbrev TIp:=V->V->Hp->VK->Prop
def PIp(X:Cx)(op:Operator)(t:TIp):Prop :=
 ∀(pins:List (Addr×Obj)) (s:Shared) (σ:St) (H:Hp) (x y:V) (v u:Value) (Q:VK),Inv X pins σ H s->RelV x v->RelV y u->t x y H Q ->
  wpAny (model X.prog X.w) X.A (inplaceOp op v u) (EP X pins σ Q) X.xe s
section
variable {X:Cx}{pos:Pos}
def A9(i:Nat):TG:=λv σ H Q=>Q (σ.set i (some v)) H
theorem b3y{i:Nat}{x:Str}(c:X.N.Nodup)(hi:X.N[i]?=some x)(a:Loc X.env.scope x)(hf:X.fn x=true∨X.env.scope.names.lookup x=some .local:=by first|exact .inl rfl|exact .inr rfl|assumption):PG X (.Name x pos) (A9 i):=by
 intro pins s σ H v u Q I r h;exact wpAny_assign_Name (a2e I c hi a r (λs' b=>⟨_,H,b,h⟩) hf)
def a7j:TGs:=λvs σ H Q=>vs=[]/\Q σ H
def U6(t:TG)(u:TGs):TGs:=λvs σ H Q=>∃v r,vs=v::r/\t v σ H λσ' H'=>u r σ' H' Q
theorem b3w:PGs X [] a7j:=by
 intro pins s σ H vs us Q I r h;obtain⟨e,h⟩:=h;subst e;cases r;exact assignInOrder_nil ⟨σ,H,I,h⟩
theorem b1e{e:Expr}{es:List Expr}{t:TG}{u:TGs}(h1:PG X e t)(h2:PGs X es u)
  (hs:(assignEach (e::es) X.env).map (·.2)=assign e X.env::(assignEach es X.env).map (·.2):=by rfl):PGs X (e::es) (U6 t u):=by
 intro pins s σ H vs us Q I r h;obtain⟨v,d,a,h⟩:=h;subst a;cases r with
 |cons r rr =>
  rw[hs];refine assignInOrder_cons (thn (h1 pins s σ H _ _ _ I r h) λ_ s1 ⟨σ1,H1,b,c⟩=>?_);exact h2 pins s1 σ1 H1 _ _ Q b rr c
def a6b(K:PySem.W.Frag)(n:Nat)(t:TGs):TG:=λv σ H Q=>∃a xs,v=.ref a/\SqT K H a xs/\xs.length=n/\t xs σ H Q
theorem b5E{es:List Expr}{k:Nat}{t:TGs}{n:Nat}(hc:X.calm=true)(h:PGs X es t)
  (l:(assignEach es X.env).length=n:=by rfl) (c:(assignEach es X.env).findIdx? (·.1)=none:=by rfl):PG X (.Tuple es k pos) (a6b X.K n t):=by
 intro pins s σ H v u Q I r hw;obtain⟨a,xs,i,g,hl,hw⟩:=hw;subst i;cases r;obtain⟨its,d,m,p⟩:=I.tuple g;refine assign_Tuple_tuple (I.ok.hd hc) m (by simp[l,<-hl,d.length]) c λh' f=>?_;have j:Inv X pins σ H {s with heap:=h'}:=I.kept (t':=s.toks) λb o e=>f b o (Nat.ne_of_lt (Heap.lt_size e)) e;exact h pins _ σ H xs _ Q j (by simpa using d) hw
def b7D(to ti:TE)(t:b2B):TG:=λv σ H Q=>to σ H λo H1=>ti σ H1 λi H2=>t o i v H2 λH3=>Q σ H3
theorem b5F{o i:Expr}{to ti:TE}{t:b2B}(e:PE X o to)(hi:PE X i ti)(hs:b6S X t)
  (ha:∀v,assign (.Subscript o i pos) X.env v=(do
   let a <-holding [v] (eval o X.env)
   let b <-holding [v,a] (eval i X.env)
   standAt pos
   holding [v,a,b] (setItem a b v)
   release [v,a,b] []):=by intro _;rfl):PG X (.Subscript o i pos) (b7D to ti t):=by
 intro pins s σ H v u Q I r h;rw[ha];refine wpAny_bind (wpAny_holding (thn (e pins s σ H _ I h) λa s1 ⟨x,H1,f,m,d⟩=>?_));refine wpAny_bind (wpAny_holding (thn (hi pins s1 σ H1 _ f d) λb s2 ⟨y,H2,j,n,c⟩=>?_));refine wpAny_bind (wpAny_standAt (wpAny_bind (wpAny_holding (thn (hs pins s2 σ H2 x y v a b u _ j m n r c) λ_ p ⟨g,l,k⟩=>?_))));exact wpAny_release ⟨σ,g,l,k⟩
def a3e(te:TE)(g:TG):TS:=λD σ H=>te σ H λx H1=>g x σ H1 D.nx
theorem b5B{tg e:Expr}{te:TE}{g:TG}(f:PE X e te)(d:PG X tg g)(hs:swapsWithSole [tg] e pos.line X.env=pure false:=by rfl)(hw:swappedStores [tg] e X.env=pure none:=by rfl)
  (h1:(assignEach [tg] X.env).map (·.2)=[assign tg X.env]:=by rfl):PS X (.Assign [tg] e pos) (a3e te g):=by
 intro pins s σ H D I h;refine wpAny_Assign_stores (thn (f pins s σ H _ I h) λv s1 ⟨x,H1,b,c,a⟩=>?_) hs hw;rw[h1];exact thn (d pins s1 σ H1 x v _ b c a) λ_ s2 q=>q
theorem b5x{i:Nat}{x:Str}{e:Expr}{te:TE}{pos':Pos}(f:X.N.Nodup)(hi:X.N[i]?=some x)(a:Loc X.env.scope x)(j:PE X e te)(hs:swapsWith e (some (.Name x pos')) pos.line X.env=pure false:=by rfl)(hf:X.fn x=true∨X.env.scope.names.lookup x=some .local:=by first|exact .inl rfl|exact .inr rfl|assumption) :
  PS X (.Assign [.Name x pos'] e pos) (a3e te (A9 i)):=by
 intro pins s σ H D I h;refine wpAny_Assign_Name (thn (j pins s σ H _ I h) λv s1 ⟨y,H1,c,g,b⟩=>?_) hs;exact a2e c f hi a g (λs2 d=>⟨_,H1,d,b⟩) hf
def b4E(to ti te:TE)(tget:V->V->Hp->VK->Prop)(tip:TIp)(tset:b2B):TS:=λD σ H=>to σ H λo H1=>ti σ H1 λi H2=>tget o i H2 λx H3=>te σ H3 λy H4=>tip x y H4 λz H5=>tset o i z H5 λH6=>D.nx σ H6
def b6T(X:Cx)(t:V->V->Hp->VK->Prop):Prop :=
 ∀(pins:List (Addr×Obj)) (s:Shared) (σ:St) (H:Hp) (o i:V) (ov iv:Value) (Q:VK),Inv X pins σ H s->RelV o ov->RelV i iv->t o i H Q ->
  wpAny (model X.prog X.w) X.A (getItem ov iv) (EP X pins σ Q) X.xe s
theorem b3m{o i e:Expr}{to ti te:TE}{b:V->V->Hp->VK->Prop}{f:TIp}{a:b2B}{k:Operator}{tpos:Pos}(C:PE X o to)(hi:PE X i ti)(w:b6T X b)(T:PE X e te)(hp:PIp X k f)(hs:b6S X a)
  (ha:∀c d new,augStore i c d new=(do holding [new,c,d] (setItem c d new);release [new,c,d] [];pure .next):=by intros;rfl):PS X (.AugAssign (.Subscript o i tpos) k e pos) (b4E to ti te b f a):=by
 intro pins s σ H D I h;refine wpAny_AugAssign_SubscriptAny (thn (C pins s σ H _ I h) λc s1 ⟨g,H1,A,l,M⟩=>?_) ha;refine thn (hi pins s1 σ H1 _ A M) λd s2 ⟨j,H2,r,m,L⟩=>?_;refine thn (w pins s2 σ H2 g j c d _ r l m L) λold J ⟨U,G,q,t,u⟩=>?_;refine thn (T pins J σ G _ q u) λv P ⟨E,K,N,F,n⟩=>?_;refine thn (hp pins P σ K U E old v _ N t F n) λnew S ⟨B,R,x,z,p⟩=>?_;exact thn (hs pins S σ R g j B c d new _ x l m z p) λ_ W ⟨Q,y,O⟩=>⟨σ,Q,y,O⟩
def ipI(f:Int->Int->Int):TIp:=λx y H Q=>∃i j,x=.int i/\y=.int j/\Q (.int (f i j)) H
theorem b6x:PIp X .Add (ipI λi j=>i+j):=by
 intro pins s σ H x y v u Q I c b h;obtain⟨i,j,a,d,q⟩:=h;subst a;subst d;obtain⟨t,rfl⟩:=c;obtain⟨t',rfl⟩:=b;exact iadd_int ⟨.int _,H,I.tok _,⟨_,rfl⟩,q⟩
def b0j(c:TT)(tb:TS):TS:=λD σ H=>∃W:Nat->St->Hp->Prop,(∃m,W m σ H)/\∀m σ H,W m σ H ->
 c σ H λb H1=>if b=true then ∃N:St->Hp->Prop,(∀σ' H',N σ' H'->∃m',m'<m/\W m' σ' H')/\tb {D with nx:=N,ct:=N,bk:=D.nx} σ H1 else D.nx σ H1
theorem b0V{c:Expr}{body:List Stmt}{tc:TT}{tb:TS}(hp:PassesOwn (model X.prog X.w) X.A X.env X.xe)(hc:PT X c tc)(hb:PSs X body tb):PS X (.While c body [] pos) (b0j tc tb):=by
 intro pins s σ H D I h;obtain⟨W,⟨r,o⟩,a⟩:=h;refine wpAny_While (codeAny_whileLoop (λn s'=>∃σ' H',Inv X pins σ' H' s'/\W n σ' H') ?_ r ⟨σ,H,I,o⟩);rintro n s1 ⟨σ1,H1,p,q⟩;refine wpAny_passesOwn hp (thn (hc pins s1 σ1 H1 _ p (a n σ1 H1 q)) λb s2 ⟨H2,l,e⟩=>?_);cases b with
 |true =>
  obtain⟨N,m,e⟩:=e;rw[if_pos rfl];refine wpAny_passesOwn hp (thn (hb pins s2 σ1 H2 _ l e) λf t g=>?_);cases f with
  |next =>
   obtain⟨σ3,d,j,n3⟩:=g;obtain⟨m',i,k⟩:=m σ3 d n3;exact⟨m',i,σ3,d,j,k⟩
  |cont =>
   obtain⟨σ3,d,j,n3⟩:=g;obtain⟨m',i,k⟩:=m σ3 d n3;exact⟨m',i,σ3,d,j,k⟩
  |brk=>exact g
  |ret v=>exact g
 |false =>
  rw[if_neg Bool.false_ne_true];exact wpAny_execs_nil ⟨σ1,H2,l,e⟩
end
structure It where
 go:Nat->Hp->Prop
 yld:Nat->Hp->V->Hp->Prop
 stop:Nat->Hp->Prop
def a1h(X:Cx)(pins:List (Addr×Obj))(H:Hp)(b:Addr):Prop :=
 H b=none/\b≠X.env.locals/\b∉X.fs/\(b∈X.ex∨X.s₀.heap.objs.size<=b)/\(∀x c,X.env.cells.lookup x=some c->c≠b)/\∀p∈X.pn++pins,p.1≠b
theorem Inv.fpOk{X:Cx}{pins:List (Addr×Obj)}{σ:St}{H H':Hp}{s:Shared}{b:Addr}(I:Inv X pins σ H s)(hb:s.heap.objs.size<=b)(a:H' b=none):a1h X pins H' b:=by
 refine⟨a,Nat.ne_of_gt (Nat.lt_of_lt_of_le I.lt hb),I.nofs hb,.inr (Nat.le_trans I.sz hb),λx c e z=>?_,λp hp z=>?_⟩
 .obtain⟨v,q⟩:=I.cell x c e;exact absurd (Nat.lt_of_lt_of_le q.lt (by rw[z];exact hb)) (Nat.lt_irrefl _)
 .exact absurd (Nat.lt_of_lt_of_le (Heap.lt_size (I.pin p hp).1) (by rw[z];exact hb)) (Nat.lt_irrefl _)
structure Turn(P:Program)(w:World)(K:PySem.W.Frag)(tg:Expr)(J:It)(fp:List Addr)(it:Addr)(tn:Nat->Heap->Prop):Prop where
 mem:it∈fp
 obj:∀i h,tn i h->∀b∈fp,∃o,h.get? b=some o/\∀v,o.data≠.cell v
 keep:∀i h h',tn i h->(∀b∈fp,∀o,h.get? b=some o->h'.get? b=some o)->tn i h'
 item:∀(X:Cx),X.prog=P->X.w=w->X.K=K->X.calm=true->∀(i:Nat) (pins:List (Addr×Obj)) (s:Shared) (σ:St) (H:Hp) (E:Value->Shared->Prop),Inv X pins σ H s->(∀b∈fp,a1h X pins H b)->tn i s.heap->J.go i H ->
  wpAny (model P w) X.A (pyNext (.ref it)) (λr s1=>∃u,r=some u /\
   wpAny (model P w) X.A (letOwnedTupleGo tg (.ref it) u) (λ_ s2=>∃x H',Inv X pins σ H' s2/\RelV x u/\J.yld i H x H'/\tn (i+1) s2.heap/\∀b∈fp,H' b=none) E s1) E s
 done:∀(X:Cx),X.prog=P->X.w=w->X.K=K->X.calm=true->∀(i:Nat) (pins:List (Addr×Obj)) (s:Shared) (σ:St) (H:Hp) (E:Value->Shared->Prop),Inv X pins σ H s->(∀b∈fp,a1h X pins H b)->tn i s.heap->J.stop i H ->
  wpAny (model P w) X.A (pyNext (.ref it)) (λr s1=>r=none/\Inv X pins σ H s1) E s
 self:∀(A:Around) (i:Nat) (s:Shared) (Q:Value->Shared->Prop) (E:Value->Shared->Prop),tn i s.heap->Q (.ref it) s->wpAny (model P w) A (pyIter (.ref it)) Q E s
abbrev TI:=St->Hp->(It->Hp->Prop)->Prop
def PIE(X:Cx)(pins:List (Addr×Obj))(σ:St)(tg:Expr)(R:It->Hp->Prop)(itv:Value)(s2:Shared):Prop :=
 ∃(it:Addr) (fp:List Addr) (tn:Nat->Heap->Prop) (J:It) (H':Hp),itv=.ref it/\Inv X pins σ H' s2/\Turn X.prog X.w X.K tg J fp it tn/\tn 0 s2.heap/\(∀b∈fp,a1h X pins H' b)/\R J H'
def PI(X:Cx)(tg iter:Expr)(wi:TI):Prop :=
 ∀(pins:List (Addr×Obj)) (s:Shared) (σ:St) (H:Hp) (R:It->Hp->Prop),Inv X pins σ H s->wi σ H R ->
  wpAny (model X.prog X.w) X.A (eval iter X.env) (λv s1=>wpAny (model X.prog X.w) X.A (pyIter v) (PIE X pins σ tg R) X.xe s1) X.xe s
theorem a8o{M:Model}{A:Around}{E:Value->Shared->Prop}{s:Shared}{tg:Expr}{it:Addr}{u:Value}{o:Obj}{n:String}{vs:Array Value}{Q:Unit->Shared->Prop}(b:s.heap.get? it=some o)(hc:o.cls=.type n)(hd:o.data=.fields vs)
  (c:["enumerate","zip","dict_itemiterator","dict_reverseitemiterator","odict_iterator","itertools.zip_longest","itertools.pairwise"].contains n=false) (a:Q () s):wpAny M A (letOwnedTupleGo tg (.ref it) u) Q E s:=by
 unfold letOwnedTupleGo;cases tg<;>first
  |exact wpAny_pure a
  | (cases u <;> first
    |exact wpAny_pure a
    | (refine wpAny_bind (wpAny_load b ?_)
       rw[hc,hd];show wpAny M A (if (["enumerate","zip","dict_itemiterator","dict_reverseitemiterator","odict_iterator","itertools.zip_longest","itertools.pairwise"].contains n && vs[0]? == some (rawInt _))=true then _ else _) Q E s;rw[if_neg (by intro h;rw[c,Bool.false_and]at h;cases h)];exact wpAny_pure a))
noncomputable def Itl(K:PySem.W.Frag)(a:Addr):It :=
 ⟨λi H=>∃xs x,SqL K H a xs/\xs[i]?=some x,λi H x H'=>H'=H/\∀xs,SqL K H a xs->xs[i]?=some x,λi H=>∃xs,SqL K H a xs/\xs.length<=i⟩
noncomputable def Itt(K:PySem.W.Frag)(a:Addr):It :=
 ⟨λi H=>∃xs x,SqT K H a xs/\xs[i]?=some x,λi H x H'=>H'=H/\∀xs,SqT K H a xs->xs[i]?=some x,λi H=>∃xs,SqT K H a xs/\xs.length<=i⟩
noncomputable def Itr(lo:Int)(n:Nat):It:=⟨λi _=>i<n,λi H x H'=>H'=H/\x=.int (lo+i),λi _=>n<=i⟩
theorem a8D{P:Program}{w:World}{K:PySem.W.Frag}{tg:Expr}(a it:Addr):Turn P w K tg (Itl K a) [it] it (λi h=>h.IsListIter it a i) where
 mem:=by simp
 obj:=λi h st b hb=>by
  have e:b=it:=by simpa using hb
  subst e;obtain⟨o,e,c,d⟩:=st;exact⟨o,e,λv z=>by rw[d]at z;cases z⟩
 keep:=λi h h' st k=>st.at λo e=>k it (by simp) o e
 item:=by
  intro X y hw n hc i pins s σ H E I hf st t;subst y hw n;obtain⟨xs,x,f,g⟩:=t;obtain⟨its,l,p,B⟩:=I.list f;obtain⟨u,A,G⟩:=l.get g;obtain⟨m,f1,f2,j,r,q⟩:=hf it (by simp);refine wpAny_pyNext_list_item st p.isList (x:=u) (by simpa using A) λh' st' sb=>?_;have C:Inv X pins σ H {s with heap:=h'}:=I.turned (t':=s.toks) (λb o hb e=>(sb.2 b hb).trans e) m f1 j r q;obtain⟨o,e,c,d⟩:=id st';exact⟨u,rfl,a8o (s:={s with heap:=h'}) e c d (by decide) ⟨x,H,C,G,⟨rfl,λys D=>by rw[I.list_inj D f];exact g⟩,st',λb hb=>(hf b hb).1⟩⟩
 done:=by
  intro X y hw n hc i pins s σ H E I hf st t;subst y hw n;obtain⟨xs,f,g⟩:=t;obtain⟨its,l,p,B⟩:=I.list f;obtain⟨m,f1,f2,j,r,q⟩:=hf it (by simp);have hl:=l.length;exact wpAny_pyNext_list_end (I.ok.hd hc) st p.isList (by simp;omega) λh' F=>⟨rfl,I.turned (t':=s.toks) (λb o hb e=>F b o hb e) m f1 j r q⟩
 self:=λ_ _ _ _ _ st h=>wpAny_pyIter_listiter st h
theorem a6t{P:Program}{w:World}{K:PySem.W.Frag}{tg:Expr}(a it:Addr):Turn P w K tg (Itt K a) [it] it (λi h=>h.IsTupleIter it a i) where
 mem:=by simp
 obj:=λi h st b hb=>by
  have e:b=it:=by simpa using hb
  subst e;obtain⟨o,e,c,d⟩:=st;exact⟨o,e,λv z=>by rw[d]at z;cases z⟩
 keep:=λi h h' st k=>st.at λo e=>k it (by simp) o e
 item:=by
  intro X y hw n hc i pins s σ H E I hf st t;subst y hw n;obtain⟨xs,x,f,g⟩:=t;obtain⟨its,l,p,B⟩:=I.tuple f;obtain⟨u,A,G⟩:=l.get g;obtain⟨m,f1,f2,j,r,q⟩:=hf it (by simp);refine wpAny_pyNext_tuple_item st (show s.heap.IsTuple a its.toArray from p) (x:=u) (by simpa using A) λh' st' sb=>?_;have C:Inv X pins σ H {s with heap:=h'}:=I.turned (t':=s.toks) (λb o hb e=>(sb.2 b hb).trans e) m f1 j r q;obtain⟨o,e,c,d⟩:=id st';exact⟨u,rfl,a8o (s:={s with heap:=h'}) e c d (by decide) ⟨x,H,C,G,⟨rfl,λys D=>by rw[I.tuple_inj D f];exact g⟩,st',λb hb=>(hf b hb).1⟩⟩
 done:=by
  intro X y hw n hc i pins s σ H E I hf st t;subst y hw n;obtain⟨xs,f,g⟩:=t;obtain⟨its,l,p,B⟩:=I.tuple f;obtain⟨m,f1,f2,j,r,q⟩:=hf it (by simp);have hl:=l.length;exact wpAny_pyNext_tuple_end (I.ok.hd hc) st (show s.heap.IsTuple a its.toArray from p) (by simp;omega) λh' F=>⟨rfl,I.turned (t':=s.toks) (λb o hb e=>F b o hb e) m f1 j r q⟩
 self:=λ_ _ _ _ _ st h=>wpAny_pyIter_tupleiter st h
theorem a6u{P:Program}{w:World}{K:PySem.W.Frag}{tg:Expr}(it:Addr)(lo:Int)(n:Nat):Turn P w K tg (Itr lo n) [it] it (λi h=>IsRangeIter h it (lo+(i:Nat)*1) ((n:Int)-(i:Nat)) 1) where
 mem:=by simp
 obj:=λi h st b hb=>by
  have e:b=it:=by simpa using hb
  subst e;exact⟨_,st,λv z=>by
   have q:Data.fields _=Data.cell v:=z;cases q⟩
 keep:=λi h h' st k=>k it (by simp) _ st
 item:=by
  intro X l hw d hc i pins s σ H E I hf st j;subst l hw d;obtain⟨c,f1,f2,a,g,f⟩:=hf it (by simp);have W:=Walks.range (prog:=X.prog) (w:=X.w) (I.ok.hd hc) it lo 1 n;refine W.item i s _ _ j st λv h' tk r st' kk=>?_;obtain⟨t,rfl⟩:=r;have m:Inv X pins σ H {s with heap:=h',toks:=tk}:=I.turned (λb o hb e=>kk b o (by simpa using hb) e) c f1 a g f;refine⟨_,rfl,a8o (s:={s with heap:=h',toks:=tk}) (n:="range_iterator") st' rfl rfl (by decide) ⟨.int (lo+i),H,m,⟨t,?_⟩,⟨rfl,rfl⟩,st',λb hb=>(hf b hb).1⟩⟩;rw[Int.mul_one]
 done:=by
  intro X l hw d hc i pins s σ H E I hf st j;subst l hw d;obtain⟨c,f1,f2,a,g,f⟩:=hf it (by simp);exact wpAny_pyNext_range_end (I.ok.hd hc) st (by have:n<=i:=j;omega) λh' p=>⟨rfl,I.turned (t':=s.toks) (λb o hb e=>p b o hb e) c f1 a g f⟩
 self:=λ_ _ _ _ _ st h=>wpAny_pyIter_rangeiter st h
section
variable {X:Cx}{tg:Expr}
def b1V(K:PySem.W.Frag)(tl:TE):TI:=λσ H R=>tl σ H λx H1=>∃a,x=.ref a/\(∃xs,SqL K H1 a xs)/\R (Itl K a) H1
def b6A(K:PySem.W.Frag)(tl:TE):TI:=λσ H R=>tl σ H λx H1=>∃a,x=.ref a/\(∃xs,SqT K H1 a xs)/\R (Itt K a) H1
theorem b3u{l:Expr}{tl:TE}(hl:PE X l tl):PI X tg l (b1V X.K tl):=by
 intro pins s σ H R I h;refine thn (hl pins s σ H _ I h) λv s1 ⟨x,H1,c,g,d⟩=>?_;obtain⟨a,e,⟨xs,f⟩,q⟩:=d;subst e;cases g;obtain⟨its,i,p,j⟩:=c.list f;refine wpAny_pyIter_list p.isList ?_;refine⟨s1.heap.objs.size,[s1.heap.objs.size],_,_,H1,rfl,c.kept (t':=s1.toks) λb o e=>Heap.get?_push_of_some _ e,a8D a _,⟨_,Heap.get?_push_size _ rfl,rfl,rfl⟩,λb hb=>?_,q⟩;have e:b=s1.heap.objs.size:=by simpa using hb
 subst e;exact c.fpOk (Nat.le_refl _) (c.hok.fresh (Nat.le_refl _))
theorem b5D{l:Expr}{tl:TE}(hl:PE X l tl):PI X tg l (b6A X.K tl):=by
 intro pins s σ H R I h;refine thn (hl pins s σ H _ I h) λv s1 ⟨x,H1,c,g,d⟩=>?_;obtain⟨a,e,⟨xs,f⟩,q⟩:=d;subst e;cases g;obtain⟨its,i,p,j⟩:=c.tuple f;refine wpAny_pyIter_tuple (show s1.heap.IsTuple a its.toArray from p) ?_;refine⟨s1.heap.objs.size,[s1.heap.objs.size],_,_,H1,rfl,c.kept (t':=s1.toks) λb o e=>Heap.get?_push_of_some _ e,a6t a _,⟨_,Heap.get?_push_size _ rfl,rfl,rfl⟩,λb hb=>?_,q⟩;have e:b=s1.heap.objs.size:=by simpa using hb
 subst e;exact c.fpOk (Nat.le_refl _) (c.hok.fresh (Nat.le_refl _))
theorem b0N{pins:List (Addr×Obj)}{σ:St}{H:Hp}{s:Shared}{R:It->Hp->Prop}{E:Value->Shared->Prop}{lo hi:Int}{t u v:Tok}{tk:Nat}(I:Inv X pins σ H s)(h1 : -(2 ^ 62)<=lo)(h2:lo<2 ^ 62)(c : -(2 ^ 62)<=hi)(f:hi<2 ^ 62)
  (q:R (Itr lo (hi-lo).toNat) H):wpAny (model X.prog X.w) X.A (pyIter (.ref s.heap.objs.size)) (PIE X pins σ tg R) E {s with heap:=s.heap.push {cls:=.type "range",data:=.fields #[.int lo t,.int hi u,.int 1 v]},toks:=tk}:=by
 refine wpAny_pyIter_range (IsRange.new ..) (small_one h1 h2 c f) ?_;have a:Inv X pins σ H {s with heap:=s.heap.push {cls:=.type "range",data:=.fields #[.int lo t,.int hi u,.int 1 v]},toks:=tk}:=I.kept λb o e=>Heap.get?_push_of_some _ e;refine⟨(s.heap.push {cls:=.type "range",data:=.fields #[.int lo t,.int hi u,.int 1 v]}).objs.size,[(s.heap.push {cls:=.type "range",data:=.fields #[.int lo t,.int hi u,.int 1 v]}).objs.size],_,_,H,rfl,
  a.kept (t':=tk) λb o e=>Heap.get?_push_of_some _ e,a6u _ lo (hi-lo).toNat,?_,λb hb=>?_,q⟩
 .have e1:lo+((0:Nat):Int)*1=lo:=by simp
  have d:(((hi-lo).toNat:Nat):Int)-((0:Nat):Int)=Builtin.Range.rangeSize lo hi 1:=by rw[rangeSize_one];split<;>omega
  show IsRangeIter _ _ (lo+((0:Nat):Int)*1) ((((hi-lo).toNat:Nat):Int)-((0:Nat):Int)) 1;rw[e1,d];exact Heap.get?_push_size _ rfl
 .have e:b=(s.heap.push {cls:=.type "range",data:=.fields #[.int lo t,.int hi u,.int 1 v]}).objs.size:=by simpa using hb
  subst e;exact a.fpOk (Nat.le_refl _) (a.hok.fresh (Nat.le_refl _))
def b4Y(ta:TA):TI:=λσ H R=>ta σ H λvs H1=>∃j:Int,vs=[.int j] /\ -(2 ^ 62)<=j/\j<2 ^ 62/\R (Itr 0 j.toNat) H1
theorem a9d{a:Expr}{ta:TA}{p pos:Pos}(i:Gl X "range")(f:X.mg "range"=none)(ha:PA X [a] ta)(hs:starEach [a] X.env=[(false,eval a X.env)]:=by rfl):PI X tg (.Call (.Name "range" p) [a] [] pos) (b4Y ta):=by
 intro pins s σ H R I h;refine Call_ (a2E I i f boot_range (PyProof.Rows.callWith_type1 (thn (ha pos pins s σ H _ I h) λus s1 ⟨vs,H1,d,g,b⟩=>?_) hs rfl));obtain⟨j,e,b,c,q⟩:=b;subst e;cases g with
 |cons r rr =>
  cases rr;obtain⟨t,rfl⟩:=r;exact call_range_1 (b0N d (by omega) (by omega) b c (by simpa using q))
def b7b(wi:TI)(g:TG)(tb:TS):TS:=λD σ H=>wi σ H λJ H1=>∃W:Nat->Nat->St->Hp->Prop,(∃m,W 0 m σ H1)/\∀i m σ H,W i m σ H ->
 (J.stop i H/\D.nx σ H)∨(J.go i H/\∃N:St->Hp->Prop,(∀σ' H',N σ' H'->∃m',m'<m/\W (i+1) m' σ' H')/\∀x H',J.yld i H x H'->g x σ H' λσ2 H2=>tb {D with nx:=N,ct:=N,bk:=D.nx} σ2 H2)
noncomputable def a2t(fp:List Addr)(h:Heap):List (Addr×Obj):=fp.filterMap λb=>(h.get? b).map λo=>(b,o)
theorem S6{fp:List Addr}{h:Heap}{b:Addr}{o:Obj}(hb:b∈fp)(e:h.get? b=some o):(b,o)∈a2t fp h:=List.mem_filterMap.mpr ⟨b,hb,by rw[e];rfl⟩
theorem a9n{fp:List Addr}{h:Heap}{p:Addr×Obj}(hp:p∈a2t fp h):p.1∈fp/\h.get? p.1=some p.2:=by
 obtain⟨b,hb,e⟩:=List.mem_filterMap.mp hp;cases q:h.get? b with
 |none=>rw[q]at e;cases e
 |some o =>
  rw[q]at e;have a:(b,o)=p:=Option.some.inj e;subst a;exact⟨hb,q⟩
theorem Inv.pinned{pins:List (Addr×Obj)}{σ:St}{H:Hp}{s:Shared}{fp:List Addr}(I:Inv X pins σ H s)(hf:∀b∈fp,a1h X pins H b)(f:∀b∈fp,∃o,s.heap.get? b=some o/\∀v,o.data≠.cell v):Inv X (pins++a2t fp s.heap) σ H s :=
 I.pins_of λp hp=>(List.mem_append.mp hp).elim (λz=>I.pin p (List.mem_append_right _ z)) λz=>by
  obtain⟨hb,e⟩:=a9n z;obtain⟨c,f1,f2,_⟩:=hf p.1 hb;obtain⟨o,a,d⟩:=f p.1 hb;rw[e]at a;cases a;exact⟨e,c,f1,f2,d⟩
theorem Inv.unpinned{pins pl:List (Addr×Obj)}{σ:St}{H:Hp}{s:Shared}(I:Inv X (pins++pl) σ H s):Inv X pins σ H s:=I.pins_of λp hp=>I.pin p (List.mem_append_right _ (List.mem_append_left _ hp))
theorem b5z{c:Expr}{body:List Stmt}{wi:TI}{g:TG}{tb:TS}{pos:Pos}(hp:PassesOwn (model X.prog X.w) X.A X.env X.xe)(hc:X.calm=true)(hi:PI X tg c wi)(Y:PG X tg g)(hb:PSs X body tb)
  (hs:∀x,foldedSetIterable c X.env x=pure x:=by intro _;rfl):PS X (.For tg c body [] pos) (b7b wi g tb):=by
 intro pins s σ H D I h;refine wpAny_For (thn (hi pins s σ H _ I h) λv s1 h1=>thn h1 λa0 s2 h2=>?_) hs;obtain⟨it,fp,O,J,H2,e,U,T,L,f2,W,⟨m0,w0⟩,t⟩:=h2;subst e;have j:∀{H':Hp},(∀b∈fp,H' b=none)->∀b∈fp,a1h X pins H' b:=λhn b hb=>⟨hn b hb,(f2 b hb).2⟩;refine codeAny_forLoop_any (λn s'=>∃i σ' H',Inv X pins σ' H' s'/\O i s'.heap/\(∀b∈fp,H' b=none)/\W i n σ' H') ?_ m0 ⟨0,σ,H2,U,L,λb hb=>(f2 b hb).1,w0⟩;rintro n P ⟨i,σ3,C,M,z,y,V⟩;rcases t i n σ3 C V with⟨stop,qn⟩|⟨go,N,hN,step⟩
 .refine wpAny_passesOwn hp (thn (T.done X rfl rfl rfl hc i pins P σ3 C X.xe M (j y) z stop) λr s4 ⟨E,I4⟩=>?_);subst E;exact wpAny_execs_nil ⟨σ3,C,I4,qn⟩
 .refine wpAny_passesOwn hp (thn (T.item X rfl rfl rfl hc i pins P σ3 C X.xe M (j y) z go) λr s4 ⟨u,E,h4⟩=>?_);subst E;refine wpAny_passesOwn hp (thn h4 λ_ R ⟨x,Q,Z,r5,y5,q,G⟩=>?_);have K:=Z.pinned (j G) (T.obj _ _ q);refine wpAny_passesOwn hp (thn (Y _ R σ3 Q x u _ K r5 (step x Q y5)) λ_ s6 ⟨σ6,H6,I6,q6⟩=>?_);refine wpAny_passesOwn hp (thn (hb _ s6 σ6 H6 _ I6 q6) λf F p=>?_);have k:∀{σ7:St}{l:Hp},Inv X (pins++a2t fp R.heap) σ7 l F->N σ7 l->∃m,m<n/\∃i σ' H',Inv X pins σ' H' F/\O i F.heap/\(∀b∈fp,H' b=none)/\W i m σ' H':=λ{σ7 l} a B=>by
   obtain⟨m',S,w7⟩:=hN σ7 l B;refine⟨m',S,i+1,σ7,l,a.unpinned,T.keep _ _ _ q λb hb o e=>(a.pin (b,o) (List.mem_append_right _ (List.mem_append_right _ (S6 hb e)))).1,λb hb=>?_,w7⟩;obtain⟨o,e,d⟩:=T.obj _ _ q b hb;exact(a.pin (b,o) (List.mem_append_right _ (List.mem_append_right _ (S6 hb e)))).2.1
  cases f with
  |next=>obtain⟨σ7,l,a,B⟩:=p;exact k a B
  |cont=>obtain⟨σ7,l,a,B⟩:=p;exact k a B
  |brk=>obtain⟨σ7,l,a,p⟩:=p;exact⟨σ7,l,a.unpinned,p⟩
  |ret v=>obtain⟨x7,σ7,l,a,r7,p⟩:=p;exact⟨x7,σ7,l,a.unpinned,r7,p⟩
end
theorem N4{K:PySem.W.Frag}{a:Addr}{xs:List V}{g:TG}{tb:TS}{D:Ends}{σ:St}{H:Hp}(b:Nat->St->Hp->Prop)(h0:b 0 σ H)(hl:∀i σ H,i<=xs.length->b i σ H->SqL K H a xs)
  (hs:∀i x σ H,xs[i]?=some x->b i σ H->g x σ H λσ2 H2=>tb {D with nx:=b (i+1),ct:=b (i+1),bk:=D.nx} σ2 H2) (hd:∀σ H,b xs.length σ H->D.nx σ H) :
  ∃W:Nat->Nat->St->Hp->Prop,(∃m,W 0 m σ H)/\∀i m σ H,W i m σ H ->
   ((Itl K a).stop i H/\D.nx σ H)∨((Itl K a).go i H/\∃N:St->Hp->Prop,(∀σ' H',N σ' H'->∃m',m'<m/\W (i+1) m' σ' H')/\∀x H',(Itl K a).yld i H x H'->g x σ H' λσ2 H2=>tb {D with nx:=N,ct:=N,bk:=D.nx} σ2 H2):=by
 refine⟨λi m σ H=>m=xs.length-i/\i<=xs.length/\b i σ H,⟨xs.length,by simp,Nat.zero_le _,h0⟩,?_⟩;rintro i m σ H ⟨rfl,hi,p⟩;have q:=hl i σ H hi p;by_cases c:i<xs.length
 .refine .inr ⟨⟨xs,xs[i],q,by simp[c]⟩,b (i+1),λσ' H' d=>⟨xs.length-(i+1),by omega,rfl,c,d⟩,λx H' y=>?_⟩;obtain⟨e,y⟩:=y;subst e;exact hs i x σ _ (y xs q) p
 .have e:i=xs.length:=by omega
  subst e;exact .inl ⟨⟨xs,q,Nat.le_refl _⟩,hd σ H p⟩
theorem b4j{K:PySem.W.Frag}{a:Addr}{xs:List V}{g:TG}{tb:TS}{D:Ends}{σ:St}{H:Hp}(b:Nat->St->Hp->Prop)(h0:b 0 σ H)(hl:∀i σ H,i<=xs.length->b i σ H->SqT K H a xs)
  (hs:∀i x σ H,xs[i]?=some x->b i σ H->g x σ H λσ2 H2=>tb {D with nx:=b (i+1),ct:=b (i+1),bk:=D.nx} σ2 H2) (hd:∀σ H,b xs.length σ H->D.nx σ H) :
  ∃W:Nat->Nat->St->Hp->Prop,(∃m,W 0 m σ H)/\∀i m σ H,W i m σ H ->
   ((Itt K a).stop i H/\D.nx σ H)∨((Itt K a).go i H/\∃N:St->Hp->Prop,(∀σ' H',N σ' H'->∃m',m'<m/\W (i+1) m' σ' H')/\∀x H',(Itt K a).yld i H x H'->g x σ H' λσ2 H2=>tb {D with nx:=N,ct:=N,bk:=D.nx} σ2 H2):=by
 refine⟨λi m σ H=>m=xs.length-i/\i<=xs.length/\b i σ H,⟨xs.length,by simp,Nat.zero_le _,h0⟩,?_⟩;rintro i m σ H ⟨rfl,hi,p⟩;have q:=hl i σ H hi p;by_cases c:i<xs.length
 .refine .inr ⟨⟨xs,xs[i],q,by simp[c]⟩,b (i+1),λσ' H' d=>⟨xs.length-(i+1),by omega,rfl,c,d⟩,λx H' y=>?_⟩;obtain⟨e,y⟩:=y;subst e;exact hs i x σ _ (y xs q) p
 .have e:i=xs.length:=by omega
  subst e;exact .inl ⟨⟨xs,q,Nat.le_refl _⟩,hd σ H p⟩
theorem a1a{lo:Int}{n:Nat}{g:TG}{tb:TS}{D:Ends}{σ:St}{H:Hp}(a:Nat->St->Hp->Prop)(h0:a 0 σ H)
  (hs:∀i σ H,i<n->a i σ H->g (.int (lo+i)) σ H λσ2 H2=>tb {D with nx:=a (i+1),ct:=a (i+1),bk:=D.nx} σ2 H2) (hd:∀σ H,a n σ H->D.nx σ H) :
  ∃W:Nat->Nat->St->Hp->Prop,(∃m,W 0 m σ H)/\∀i m σ H,W i m σ H ->
   ((Itr lo n).stop i H/\D.nx σ H)∨((Itr lo n).go i H/\∃N:St->Hp->Prop,(∀σ' H',N σ' H'->∃m',m'<m/\W (i+1) m' σ' H')/\∀x H',(Itr lo n).yld i H x H'->g x σ H' λσ2 H2=>tb {D with nx:=N,ct:=N,bk:=D.nx} σ2 H2):=by
 refine⟨λi m σ H=>m=n-i/\i<=n/\a i σ H,⟨n,by simp,Nat.zero_le _,h0⟩,?_⟩;rintro i m σ H ⟨rfl,hi,p⟩;by_cases b:i<n
 .refine .inr ⟨b,a (i+1),λσ' H' c=>⟨n-(i+1),by omega,rfl,b,c⟩,λx H' y=>?_⟩;obtain⟨e,y⟩:=y;subst e y;exact hs i σ _ b p
 .have e:i=n:=by omega
  subst e;exact .inl ⟨Nat.le_refl _,hd σ H p⟩
abbrev R2:=V->V->Hp->VK->Prop
def OpR(X:Cx)(f:Value->Value->Sem Value)(r:R2):Prop :=
 ∀(pins:List (Addr×Obj)) (s:Shared) (σ:St) (H:Hp) (x y:V) (v u:Value) (Q:VK),Inv X pins σ H s->RelV x v->RelV y u->r x y H Q ->
  wpAny (model X.prog X.w) X.A (f v u) (EP X pins σ Q) X.xe s
def UnR(X:Cx)(f:Value->Sem Value)(r:V->Hp->VK->Prop):Prop :=
 ∀(pins:List (Addr×Obj)) (s:Shared) (σ:St) (H:Hp) (x:V) (v:Value) (Q:VK),Inv X pins σ H s->RelV x v->r x H Q ->
  wpAny (model X.prog X.w) X.A (f v) (EP X pins σ Q) X.xe s
def D0(X:Cx)(f:Value)(r:List V->Hp->VK->Prop):Prop :=
 ∀(pins:List (Addr×Obj)) (s:Shared) (σ:St) (H:Hp) (xs:List V) (us:List Value) (Q:VK),Inv X pins σ H s->Vals xs us->r xs H Q ->
  wpAny (model X.prog X.w) X.A (call f us) (EP X pins σ Q) X.xe s
def b7Q(X:Cx)(r:V->Hp->(Bool->Hp->Prop)->Prop):Prop :=
 ∀(pins:List (Addr×Obj)) (s:Shared) (σ:St) (H:Hp) (x:V) (v:Value) (Q:Bool->Hp->Prop),Inv X pins σ H s->RelV x v->r x H Q ->
  wpAny (model X.prog X.w) X.A (truthy v) (TP X pins σ Q) X.xe s
def tOp(r:R2)(ta tb:TE):TE:=λσ H Q=>ta σ H λx H1=>tb σ H1 λy H2=>r x y H2 Q
def tUn(r:V->Hp->VK->Prop)(ta:TE):TE:=λσ H Q=>ta σ H λx H1=>r x H1 Q
def rI(C:Int->Int->Prop)(g:Int->Int->V):R2:=λx y H Q=>∃i j,x=.int i/\y=.int j/\C i j/\Q (g i j) H
def rI0(g:Int->Int->V):R2:=λx y H Q=>∃i j,x=.int i/\y=.int j/\Q (g i j) H
def rU(g:Int->V):V->Hp->VK->Prop:=λx H Q=>∃i,x=.int i/\Q (g i) H
section
variable {X:Cx}{a b c:Expr}{ta tb tc:TE}{pos:Pos}
theorem b6H(ha:PE X a ta)(hb:PE X b tb){pins:List (Addr×Obj)}{s:Shared}{σ:St}{H:Hp}{R:V->V->Hp->Prop}(I:Inv X pins σ H s)
  (h:ta σ H λx H1=>tb σ H1 λy H2=>R x y H2) {Q:Value->Shared->Prop}{f:Value->Value->Sem Value}
  (hf:∀v u s2 x y H2,Inv X pins σ H2 s2->RelV x v->RelV y u->R x y H2->wpAny (model X.prog X.w) X.A (f v u) Q X.xe s2) :
  wpAny (model X.prog X.w) X.A (eval a X.env) (λv s₁=>wpAny (model X.prog X.w) X.A (eval b X.env) (λu s₂=>wpAny (model X.prog X.w) X.A (f v u) Q X.xe s₂) X.xe s₁) X.xe s:=by
 refine thn (ha pins s σ H _ I h) λv s1 ⟨x,H1,e,i,d⟩=>?_;refine thn (hb pins s1 σ H1 _ e d) λu s2 ⟨y,H2,g,j,c⟩=>?_;exact hf v u s2 x y H2 g i j c
theorem a0u{c:Operator}{r:R2}(e:OpR X (binaryOp c) r)(ha:PE X a ta)(hb:PE X b tb):PE X (.BinOp a c b pos) (tOp r ta tb):=by
 intro pins s σ H Q I h;exact wpAny_BinOp (b6H ha hb I h λv u s2 x y H2 g d f q=>e pins s2 σ H2 x y v u Q g d f q)
theorem b7k{b:UnaryOp}{r:V->Hp->VK->Prop}(d:UnR X (unaryOp b) r)(ha:PE X a ta):PE X (.UnaryOp b a pos) (tUn r ta):=by
 intro pins s σ H Q I h;exact UnaryOp_ (thn (ha pins s σ H _ I h) λv s1 ⟨x,H1,e,f,c⟩=>d pins s1 σ H1 x v Q e f c)
theorem opI{f:Value->Value->Sem Value}{C:Int->Int->Prop}{g:Int->Int->Int}
  (a:∀(i j:Int) (t u:Tok) (s:Shared) (Q:Value->Shared->Prop) (E:Value->Shared->Prop),C i j->Q (.int (g i j) s.toks) {s with toks:=s.toks+1}->wpAny (model X.prog X.w) X.A (f (.int i t) (.int j u)) Q E s) :
  OpR X f (rI C λi j=>.int (g i j)):=by
 intro pins s σ H x y v u Q I b c h;obtain⟨i,j,rfl,rfl,hc,q⟩:=h;obtain⟨t,rfl⟩:=b;obtain⟨t',rfl⟩:=c;exact a i j t t' s _ _ hc ⟨.int (g i j),H,I.tok _,⟨_,rfl⟩,q⟩
theorem b7r{f:Value->Value->Sem Value}{g:Int->Int->Int}
  (a:∀(i j:Int) (t u:Tok) (s:Shared) (Q:Value->Shared->Prop) (E:Value->Shared->Prop),Q (.int (g i j) s.toks) {s with toks:=s.toks+1}->wpAny (model X.prog X.w) X.A (f (.int i t) (.int j u)) Q E s) :
  OpR X f (rI0 λi j=>.int (g i j)):=by
 intro pins s σ H x y v u Q I b c h;obtain⟨i,j,rfl,rfl,q⟩:=h;obtain⟨t,rfl⟩:=b;obtain⟨t',rfl⟩:=c;exact a i j t t' s _ _ ⟨.int (g i j),H,I.tok _,⟨_,rfl⟩,q⟩
theorem b3J{f:Value->Value->Sem Value}{g:Int->Int->Bool}
  (a:∀(i j:Int) (t u:Tok) (s:Shared) (Q:Value->Shared->Prop) (E:Value->Shared->Prop),Q (.bool (g i j)) s->wpAny (model X.prog X.w) X.A (f (.int i t) (.int j u)) Q E s) :
  OpR X f (rI0 λi j=>.bl (g i j)):=by
 intro pins s σ H x y v u Q I b c h;obtain⟨i,j,rfl,rfl,q⟩:=h;obtain⟨t,rfl⟩:=b;obtain⟨t',rfl⟩:=c;exact a i j t t' s _ _ ⟨.bl (g i j),H,I,rfl,q⟩
def b7I(i j:Int):Prop:=0<j/\j<1073741824
def b7H(i j:Int):Prop:=0<=j/\j<=1000000/\i.natAbs<2 ^ 64
def CMul(i j:Int):Prop:=(-(2 ^ 64)<i/\i<2 ^ 64)∨(-(2 ^ 64)<j/\j<2 ^ 64)
theorem CMul.ok{i j:Int}(h:CMul i j):IntMulOk i j:=by
 rcases h with⟨h1,h2⟩|⟨h1,h2⟩
 .exact .of_left (intBits_le_64 h1 h2)
 .exact .of_right (intBits_le_64 h1 h2)
theorem b6c:OpR X (binaryOp .Add) (rI0 λi j=>.int (i+j)):=b7r λ_ _ _ _ _ _ _ q=>add_int q
theorem b5T:OpR X (binaryOp .Sub) (rI0 λi j=>.int (i-j)):=b7r λ_ _ _ _ _ _ _ q=>sub_int q
theorem b5X:OpR X (binaryOp .Mult) (rI CMul λi j=>.int (i*j)):=opI λ_ _ _ _ _ _ _ hc q=>mul_int q hc.ok
theorem b3H:OpR X (binaryOp .FloorDiv) (rI b7I λi j=>.int (i / j)):=opI λi j _ _ _ _ _ hc q=>by
 have h1:(0:Int)<j:=hc.1;have h2:j<1073741824:=hc.2;exact floordiv_int (by omega) (by rw[Int.fdiv_eq_ediv_of_nonneg i (by omega)];exact q) (.inl (PyProof.noPylong_small (by omega)))
theorem b5Y:OpR X (binaryOp .Mod) (rI (λ_ j=>0<j) λi j=>.int (i % j)):=opI λi j _ _ _ _ _ hc q=>by
 have h1:(0:Int)<j:=hc;exact mod_int' (by omega) (by rw[Int.fmod_eq_emod_of_nonneg i (by omega)];exact q)
theorem b5U:OpR X (binaryOp .Pow) (rI b7H λi j=>.int (i ^ j.toNat)):=opI λ_ _ _ _ _ _ _ hc q=>pow_int_small hc.1 hc.2.1 hc.2.2 q
theorem unI{f:Value->Sem Value}{g:Int->Int}
  (a:∀(i:Int) (t:Tok) (s:Shared) (Q:Value->Shared->Prop) (E:Value->Shared->Prop),Q (.int (g i) s.toks) {s with toks:=s.toks+1}->wpAny (model X.prog X.w) X.A (f (.int i t)) Q E s) :
  UnR X f (rU λi=>.int (g i)):=by
 intro pins s σ H x v Q I b h;obtain⟨i,rfl,q⟩:=h;obtain⟨t,rfl⟩:=b;exact a i t s _ _ ⟨.int (g i),H,I.tok _,⟨_,rfl⟩,q⟩
theorem b5f:UnR X (unaryOp .USub) (rU λi=>.int (-i)):=unI λ_ _ _ _ _ q=>neg_int q
end
noncomputable def b5l:V->V->Bool
 |.non,.non=>true | .non,.int _=>true | .int _,.non=>true | .non,.bl _=>true | .bl _,.non=>true | .non,.str _=>true | .str _,.non=>true
 |.int _,.int _=>true | .bl _,.bl _=>true | .str _,.str _=>true | .byt _,.byt _=>true
 |.int _,.str _=>true | .str _,.int _=>true | .bl _,.str _=>true | .str _,.bl _=>true
 |_,_=>false
theorem a1L(a b:Int):b5l (.int a) (.int b)=true:=rfl
def rEq:R2:=λx y H Q=>b5l x y=true/\Q (.bl (decide (x=y))) H
def rNe:R2:=λx y H Q=>b5l x y=true/\Q (.bl (!decide (x=y))) H
theorem b4l{i j:Int}:decide (V.int i=V.int j)=(i==j):=by
 rw[Bool.eq_iff_iff];simp
theorem b6E{i j:Bool}:decide (V.bl i=V.bl j)=(i==j):=by
 rw[Bool.eq_iff_iff];simp
theorem b4k{i j:Str}:decide (V.str i=V.str j)=(i==j):=by
 rw[Bool.eq_iff_iff];simp
theorem b4m{i j:Array UInt8}:decide (V.byt i=V.byt j)=(i.toList==j.toList):=by
 rw[Bool.eq_iff_iff];cases i;cases j;simp
section
variable {X:Cx}{a b c:Expr}{ta tb tc:TE}{pos:Pos}
theorem E3{pins:List (Addr×Obj)}{σ:St}{H:Hp}{s:Shared}{Q:VK}{k a:Bool}(I:Inv X pins σ H s)(q:Q (.bl k) H)(e:k=a):EP X pins σ Q (.bool a) s:=by
 subst e;exact⟨.bl k,H,I,rfl,q⟩
theorem b4Q:OpR X (compareOp .Eq) rEq:=by
 intro pins s σ H x y v u Q I b a h;obtain⟨hs,q⟩:=h;cases x with
 |non =>
  cases b;cases y with
  |non=>cases a;exact PySem.EqNone.eq_none_none (E3 I q (by simp))
  |bl j=>cases a;exact PySem.EqNone.eq_none_bool (E3 I q (by simp))
  |int j=>obtain⟨t',rfl⟩:=a;exact PySem.EqNone.eq_none_int (E3 I q (by simp))
  |str j=>obtain⟨t',rfl⟩:=a;exact PySem.EqNone.eq_none_str (E3 I q (by simp))
  |_=>exact absurd (show false=true from hs) Bool.false_ne_true
 |bl i =>
  cases b;cases y with
  |non=>cases a;exact PySem.EqNone.eq_bool_none (E3 I q (by simp))
  |bl j=>cases a;exact eq_bool (E3 I q b6E)
  |str j=>obtain⟨t',rfl⟩:=a;exact PySem.EqMixed.eq_bool_str (E3 I q (by simp))
  |_=>exact absurd (show false=true from hs) Bool.false_ne_true
 |int i =>
  obtain⟨t,rfl⟩:=b;cases y with
  |non=>cases a;exact PySem.EqNone.eq_int_none (E3 I q (by simp))
  |int j=>obtain⟨t',rfl⟩:=a;exact eq_int (E3 I q b4l)
  |str j=>obtain⟨t',rfl⟩:=a;exact PySem.EqMixed.eq_int_str (E3 I q (by simp))
  |_=>exact absurd (show false=true from hs) Bool.false_ne_true
 |str i =>
  obtain⟨t,rfl⟩:=b;cases y with
  |non=>cases a;exact PySem.EqNone.eq_str_none (E3 I q (by simp))
  |bl j=>cases a;exact PySem.EqMixed.eq_str_bool (E3 I q (by simp))
  |int j=>obtain⟨t',rfl⟩:=a;exact PySem.EqMixed.eq_str_int (E3 I q (by simp))
  |str j=>obtain⟨t',rfl⟩:=a;exact eq_str (E3 I q b4k)
  |_=>exact absurd (show false=true from hs) Bool.false_ne_true
 |byt i =>
  obtain⟨t,rfl⟩:=b;cases y with
  |byt j=>obtain⟨t',rfl⟩:=a;exact PySem.W.eq_bytes (E3 I q b4m)
  |_=>exact absurd (show false=true from hs) Bool.false_ne_true
 |_=>cases y<;>exact absurd (show false=true from hs) Bool.false_ne_true
theorem b7o:OpR X (compareOp .Lt) (rI0 λi j=>.bl (decide (i<j))):=b3J λ_ _ _ _ _ _ _ q=>lt_int q
theorem b7p:OpR X (compareOp .LtE) (rI0 λi j=>.bl (decide (i<=j))):=b3J λ_ _ _ _ _ _ _ q=>le_int q
theorem b7q:OpR X (compareOp .Gt) (rI0 λi j=>.bl (decide (j<i))):=b3J λ_ _ _ _ _ _ _ q=>gt_int q
theorem b4P:OpR X (compareOp .GtE) (rI0 λi j=>.bl (decide (j<=i))):=b3J λ_ _ _ _ _ _ _ q=>ge_int q
theorem b1m:OpR X (compareOp .Is) (λx y H Q=>y=.non/\Q (.bl (decide (x=.non))) H):=by
 intro pins s σ H x y v u Q I a b h;obtain⟨rfl,q⟩:=h;cases b;refine is_none_gen (E3 I q ?_);cases x<;>first
  |(cases a;rfl)
  |(obtain⟨t,rfl⟩:=a;rfl)
theorem b3G:OpR X (compareOp .IsNot) (λx y H Q=>y=.non/\Q (.bl (!decide (x=.non))) H):=by
 intro pins s σ H x y v u Q I a b h;obtain⟨rfl,q⟩:=h;cases b;refine isnot_none_gen (E3 I q ?_);cases x<;>first
  |(cases a;rfl)
  |(obtain⟨t,rfl⟩:=a;rfl)
theorem J5(b:Expr){a:CmpOp}(h:a≠.In:=by decide)(h2:a≠.NotIn:=by decide):behindInMarks a b=false:=by
 have c:(a==CmpOp.In)=false:=by cases a<;>first|rfl|exact absurd rfl h
 have d:(a==CmpOp.NotIn)=false:=by cases a<;>first|rfl|exact absurd rfl h2
 cases b with
 |Set elts k p=>show(k==0 && (a==CmpOp.In || a==CmpOp.NotIn) && elts.all (constantsAlone 8))=false;rw[c,d,Bool.or_false,Bool.and_false,Bool.false_and]
 |_=>rfl
theorem a0v{c:CmpOp}{r:R2}(e:OpR X (compareOp c) r)(ha:PE X a ta)(hb:PE X b tb)(g:behindInMarks c b=false):PE X (.Compare a [c] [b] pos) (tOp r ta tb):=by
 intro pins s σ H Q I h;exact wpAny_Compare1 (b6H ha hb I h λv u s2 x y H2 i d f q=>e pins s2 σ H2 x y v u Q i d f q) g
def M9(t:TE):TT:=λσ H Q=>t σ H λx H'=>∃k,x=.bl k/\Q k H'
theorem M3{d:CmpOp}{r:R2}(i:OpR X (compareOp d) r)(ha:PE X a ta)(hb:PE X b tb)(l:behindInMarks d b=false):PT X (.Compare a [d] [b] pos) (M9 (tOp r ta tb)):=by
 intro pins s σ H Q I h;refine wpAny_isTrue_Compare1 (thn (ha pins s σ H _ I h) λv s1 ⟨x,H1,j,t,g⟩=>thn (hb pins s1 σ H1 _ j g) λu s2 ⟨y,H2,n,w,f⟩ =>
  thn (i pins s2 σ H2 x y v u _ n t w f) λc A ⟨z,m,o,p,k,e,q⟩=>?_) l
 subst e;cases p;exact wpAny_truthy_bool ⟨m,o,q⟩
def b6R(K:PySem.W.Frag)(x:V)(H:Hp)(k:Bool):Prop :=
 match x with
 |.non=>k=false
 |.bl b=>k=b
 |.int i=>k=(i != 0)
 |.str y=>y.length<=sizeLine/\k=((y.length:Int) != 0)
 |.byt y=>y.size<=sizeLine/\k=((y.size:Int) != 0)
 |.ref p=>(∃xs,SqL K H p xs/\k=!xs.isEmpty)∨(∃xs,SqT K H p xs/\k=!xs.isEmpty)∨∃kvs,H p=some (.dK kvs)/\k=!kvs.isEmpty
 |_=>False
theorem a7f{κ:Type}{kvs:List (κ×V)}{vs:List (κ×Value)}(r:KV kvs vs):(!vs.isEmpty)=!kvs.isEmpty:=by
 cases r<;>rfl
theorem a2O{xs:List V}{its:List Value}(r:Vals xs its):(!its.toArray.isEmpty)=!xs.isEmpty:=by
 cases r<;>simp
theorem a0S:(sizeLine:Nat)<2 ^ 63:=by rw[sizeLine_eq];decide
theorem b5h:b7Q X (λx H Q=>∃k,b6R X.K x H k/\Q k H):=by
 intro pins s σ H x v Q I d h;obtain⟨k,e,q⟩:=h;have hl:=a0S;have hs:sizeLine=16777216:=sizeLine_eq;cases x with
 |non =>
  cases d;have a:k=false:=e;subst a;exact truthy_none ⟨H,I,q⟩
 |bl b =>
  cases d;have a:k=b:=e;subst a;exact wpAny_truthy_bool ⟨H,I,q⟩
 |int i =>
  obtain⟨t,rfl⟩:=d;have a:k=(i != 0):=e;subst a;exact PySem.P.truthy_int ⟨H,I,q⟩
 |str y =>
  obtain⟨t,rfl⟩:=d;obtain⟨l,a⟩:y.length<=sizeLine/\k=((y.length:Int) != 0):=e;subst a;exact PySem.P.truthy_str (by omega) ⟨H,I.tok _,q⟩
 |byt y =>
  obtain⟨t,rfl⟩:=d;obtain⟨l,a⟩:y.size<=sizeLine/\k=((y.size:Int) != 0):=e;subst a;exact PySem.W.truthy_bytes (by omega) ⟨H,I.tok _,q⟩
 |ref p =>
  cases d;have a:(∃xs,SqL X.K H p xs/\k=!xs.isEmpty)∨(∃xs,SqT X.K H p xs/\k=!xs.isEmpty)∨∃kvs,H p=some (.dK kvs)/\k=!kvs.isEmpty:=e;rcases a with⟨xs,f,a⟩|⟨xs,f,a⟩|⟨kvs,f,a⟩
  .subst a;obtain⟨its,r,pl,g⟩:=I.list f;have c:=r.length;exact wpAny_truthy_list pl.isList (by simp only[List.size_toArray];omega) ⟨H,I.tok _,by rw[a2O r];exact q⟩
  .subst a;obtain⟨its,r,pl,g⟩:=I.tuple f;have c:=r.length;exact truthy_tuple pl (by simp only[List.size_toArray];omega) ⟨H,I.tok _,by rw[a2O r];exact q⟩
  .subst a;obtain⟨g,j,vs,r,m⟩:kvs.length<=sizeLine/\(p==sysModules)=false/\∃vs,KV kvs vs/\s.heap.DictOf (B5 X.prog X.w) p vs:=I.hok p _ f;have c:kvs.length=vs.length:=Paired.length r;exact wpAny_truthy_dict j m (by omega) ⟨H,I.tok _,by rw[a7f r];exact q⟩
 |_=>exact(show False from e).elim
theorem b0T(ha:PE X a ta)(f:∀b,isTrue a X.env b=(do let v <-b;standAt a.pos;holding [v] (truthy v))) :
  PT X a (λσ H Q=>ta σ H λx H'=>∃k,b6R X.K x H' k/\Q k H'):=by
 intro pins s σ H Q I h;exact isTrue_plain (thn (ha pins s σ H _ I h) λv s1 ⟨x,H1,d,e,c⟩=>b5h pins s1 σ H1 x v Q d e c) (f _)
theorem a5i{x:V}{us:List Value}(r:Vals [x] us):∃u,us=[u]/\RelV x u:=by
 cases r with
 |cons r1 r2=>cases r2;exact⟨_,rfl,r1⟩
theorem b6Y{x y:V}{us:List Value}(r:Vals [x,y] us):∃u a,us=[u,a]/\RelV x u/\RelV y a:=by
 cases r with
 |cons r1 r2 =>
  cases r2 with
  |cons r3 r4=>cases r4;exact⟨_,_,rfl,r1,r3⟩
theorem a9O(hc:X.calm=true):D0 X (.builtin "max") (λxs H Q=>∃i j,xs=[.int i,.int j]/\Q (.int (if j > i then j else i)) H):=by
 intro pins s σ H xs us Q I r h;obtain⟨i,j,rfl,q⟩:=h;obtain⟨u,b,rfl,⟨t,rfl⟩,⟨t',rfl⟩⟩:=b6Y r;refine max_two_ints (I.ok.hd hc) λh' tk k=>⟨_,H,I.kept k,?_,q⟩;by_cases a:j > i
 .rw[if_pos a,if_pos a];exact⟨_,rfl⟩
 .rw[if_neg a,if_neg a];exact⟨_,rfl⟩
theorem a9T:D0 X (.type "int") (λxs H Q=>(∃i,xs=[.int i]/\Q (.int i) H)∨∃k,xs=[.bl k]/\Q (.int (if k then 1 else 0)) H):=by
 intro pins s σ H xs us Q I r h;rcases h with⟨i,rfl,q⟩|⟨k,rfl,q⟩
 .obtain⟨u,rfl,t,rfl⟩:=a5i r;exact call_int_int ⟨.int i,H,I,⟨_,rfl⟩,q⟩
 .obtain⟨u,rfl,r1⟩:=a5i r;cases r1;exact call_int_bool ⟨.int (if k then 1 else 0),H,I.tok _,⟨_,rfl⟩,q⟩
end
structure ObjM(h:Heap)(x dx C:Addr)(mA:Str->Option Value):Prop where
 obj:h.get? x=some (PySem.W.instObj C dx)
 ns:h.Ns1 dx mA
 ne:dx≠x
theorem a9r{h:Heap}{dx:Addr}{mA:Str->Option Value}(n:h.Ns1 dx mA):∃od,h.get? dx=some od/\∀name,PySem.W.lookIn name od=some (mA name):=by
 obtain⟨o,es,ep,c,hd,d,_,g⟩:=n;refine⟨o,c,λname=>?_⟩;have e:=g name;unfold nsFind findBy at e;rw[<-Array.find?_toList]at e;unfold PySem.W.lookIn;rw[hd];dsimp only;split
 .rename_i y q;rw[q]at e;exact congrArg some e
 .rename_i q;rw[q]at e;have a:es.toList.any (·.refKey)=false:=by
   rw[List.any_eq_false];intro y f;obtain⟨z,t,b⟩:=d y (Array.mem_toList_iff.mp f);simp[DictEntry.refKey,b]
  have i:¬es.toList.any (·.refKey)=true:=by rw[a];exact Bool.false_ne_true
  rw[if_neg i];exact congrArg some e
theorem ObjM.look{h:Heap}{x dx C:Addr}{mA:Str->Option Value}(I:ObjM h x dx C mA):∃od,PySem.W.InstAt h x (PySem.W.instObj C dx) C (some od)/\∀name,PySem.W.lookIn name od=some (mA name) :=
 let ⟨od,ho,hl⟩:=a9r I.ns
 ⟨od,⟨I.obj,rfl,rfl,ho⟩,hl⟩
section
variable {prog:Program}{w:World}{A:Around}{E:Value->Shared->Prop}{s:Shared}{K:PySem.W.Frag}{x dx C f:Addr}{mA:Str->Option Value}{name:Str}{v:Value}
theorem b4h{a:Bool}{Q:Value->Shared->Prop}(X:K.In s.heap)(I:ObjM s.heap x dx C mA)(d:PySem.W.plainGet K C name=true)(c:PySem.W.hasDictIn K C=true)
  (ha:PySem.W.findIn K (.ref C) name=some none) (e:mA name=some v) (b:PySem.W.handedIn v=true) (h:Q v {s with toks:=s.toks+1}) :
  wpAny (model prog w) A (getAttr (.ref x) name a) Q E s:=by
 obtain⟨od,J,hl⟩:=I.look;exact PySem.W.get_value X J (PySem.W.plainGet_of d).1 (PySem.W.findObj_own c ha rfl (by rw[hl,e])) b h
theorem b1Z{pl:Sem Bool}{Q:Value×List Value->Shared->Prop}(X:K.In s.heap)(I:ObjM s.heap x dx C mA)(a:PySem.W.plainGet K C name=true)
  (hf:PySem.W.findIn K (.ref C) name=some (some (.ref f))) (c:PySem.W.isFn K (.ref f)=true) (b:mA name=none) (h:Q (.ref f,[.ref x]) s) :
  wpAny (model prog w) A (getMethod (.ref x) name pl) Q E s:=by
 obtain⟨od,J,hl⟩:=I.look;exact PySem.W.method_fn X J (PySem.W.plainGet_of a).1 (PySem.W.plainGet_of a).2 hf (beq_iff_eq.mp c) (by show(PySem.W.lookIn name od).map (·.isSome)=some false;rw[hl,b];rfl) h
theorem b2V{ns:List Str}{Q:Unit->Shared->Prop}(X:K.In s.heap)(I:ObjM s.heap x dx C mA)
  (hs:PySem.W.findIn K (.ref C) "__setattr__"=some (some (.builtin "object.__setattr__"))) (hp:PySem.W.plainOver K C=true) (n:PySem.W.takerIn K C name=some none) (m:PySem.W.hasDictIn K C=true)
  (hw:PySem.Within mA ns) (hsz:ns.length<=sizeLine)
  (h:∀h',ObjM h' x dx C (λy=>if y=name then some v else mA y)->Heap.SameBut dx s.heap h'->Q () {s with heap:=h',toks:=s.toks+2}) :
  wpAny (model prog w) A (setAttr (.ref x) name v) Q E s:=by
 obtain⟨od,J,hl⟩:=I.look;refine PySem.W.set_plain X J hs (PySem.W.osa_open (s:={s with toks:=s.toks+1}) (r:=none) X J hp n λb=>?_);obtain⟨cd,hc,g⟩:=PySem.W.any_some m;have j:s.heap.get? x=some ⟨.ref C,some dx,.plain,#[]⟩:=I.obj;refine wpAny_bind (wpAny_pure (wpAny_bind (wpAny_bind (wpAny_loadPart j (wpAny_bind (PySem.W.Looks.here (s:={s with toks:=s.toks+1}) (PySem.W.looks_clsIn X hc) ?_))))));rw[g];refine wpAny_pure (a:=some dx) (wpAny_bind (wpAny_pure (wpAny_bind ?_)));refine wpAny_nsSet1 (s:={s with toks:=s.toks+1}) I.ns λh' d c=>?_;obtain⟨o,k,l,i,e,f⟩:=d.count (PySem.Within.cons name v hw);refine wpAny_bind (wpAny_lookBehind i (by rw[e];exact pastItsLine_dict (Nat.le_trans f (by rw[List.length_cons];omega))) ?_);exact wpAny_pure (h _ ⟨(c.2 _ (Ne.symm I.ne)).trans I.obj,d,I.ne⟩ c)
theorem b1C{R:Result->Shared->Prop}{vs:List Value}{a:List (Str×Value)}(X:K.In s.heap)(b:PySem.W.makesIn K C=true)
  (hi:PySem.W.findIn K (.ref C) "__init__"=some (some (.ref f))) (hf:PySem.W.typeIn K (.ref f)=some (.type "function"))
  (h:codeAny (model prog w) (A.under (.builtin "type.__call__" ⟨.ref C::vs,a⟩)) (.call (.ref f) ⟨.ref (s.heap.objs.size+1)::vs,a⟩) (PySem.W.InitBack (s.heap.objs.size+1) R)
   {s with heap:=(s.heap.push PySem.W.emptyDict).push (PySem.W.instObj C s.heap.objs.size)}) :
  codeAny (model prog w) A (.call (.ref C) ⟨vs,a⟩) R s:=by
 obtain⟨c,g,d,t,os⟩:=s;exact PySem.W.make_core (PySem.W.makes_of X b) (PySem.W.looks_findIn X hi) (λself=>PySem.W.bind_fn X self hf) (.inl rfl) h
end
noncomputable def I0(f:Str)(v:V):List (Str×V)->List (Str×V)
 |[]=>[(f,v)]
 |(g,x)::r=>if g=f then(g,v)::r else(g,x)::I0 f v r
theorem a1p(f g:Str)(v:V):∀fs:List (Str×V),(I0 f v fs).lookup g=if g=f then some v else fs.lookup g
 |[]=>by
  show List.lookup g [(f,v)]=_;by_cases h:g=f
  .have hb:(g==f)=true:=beq_iff_eq.mpr h;simp only[List.lookup,hb,if_pos h]
  .have hb:(g==f)=false:=beq_eq_false_iff_ne.mpr h;simp only[List.lookup,hb,if_neg h]
 |(k,x)::r=>by
  have ih:=a1p f g v r;rw[show I0 f v ((k,x)::r)=(if k=f then(k,v)::r else(k,x)::I0 f v r)from rfl];by_cases a:k=f
  .rw[if_pos a];by_cases h:g=k
   .have hb:(g==k)=true:=beq_iff_eq.mpr h;simp only[List.lookup,hb,if_pos (h.trans a)]
   .have hb:(g==k)=false:=beq_eq_false_iff_ne.mpr h;simp only[List.lookup,hb,if_neg (λe:g=f=>h (e.trans a.symm))]
  .rw[if_neg a];by_cases h:g=k
   .have hb:(g==k)=true:=beq_iff_eq.mpr h;simp only[List.lookup,hb,if_neg (λe:g=f=>a (h.symm.trans e))]
   .have hb:(g==k)=false:=beq_eq_false_iff_ne.mpr h;simp only[List.lookup,hb];exact ih
theorem a0W(f:Str)(v:V):∀fs:List (Str×V),f∈(I0 f v fs).map (·.1)/\∀g,g∈fs.map (·.1)->g∈(I0 f v fs).map (·.1)
 |[]=>⟨by simp[I0],λg h=>by simp at h⟩
 |(k,x)::r=>by
  obtain⟨b,c⟩:=a0W f v r;rw[show I0 f v ((k,x)::r)=(if k=f then(k,v)::r else(k,x)::I0 f v r)from rfl];by_cases a:k=f
  .rw[if_pos a];subst a;exact⟨by simp,λg h=>by simpa using h⟩
  .rw[if_neg a];refine⟨?_,λg h=>?_⟩
   .rw[List.map_cons];exact List.mem_cons_of_mem _ b
   .rw[List.map_cons]at h⊢;rcases List.mem_cons.mp h with e|e
    .exact List.mem_cons.mpr (.inl e)
    .exact List.mem_cons_of_mem _ (c g e)
theorem a1r(f:Str)(v:V):∀fs:List (Str×V),(I0 f v fs).length<=fs.length+1
 |[]=>by simp[I0]
 |(k,x)::r=>by
  have ih:=a1r f v r;rw[show I0 f v ((k,x)::r)=(if k=f then(k,v)::r else(k,x)::I0 f v r)from rfl];by_cases a:k=f
  .rw[if_pos a,List.length_cons,List.length_cons];omega
  .rw[if_neg a,List.length_cons,List.length_cons];omega
theorem RelO.some_of{v:V}{o:Option Value}(r:RelO (some v) o):∃u,o=some u/\RelV v u:=by
 cases o with
 |none=>exact(show False from r).elim
 |some u=>exact⟨u,rfl,r⟩
theorem RelO.none_of{o:Option Value}(r:RelO none o):o=none:=by
 cases o with
 |none=>rfl
 |some u=>exact(show False from r).elim
theorem a9z{v:V}{u:Value}(r:RelV v u):PySem.W.handedIn u=true:=by
 cases v with
 |non=>cases(show u=Value.none from r);rfl
 |bl b=>cases(show u=Value.bool b from r);rfl
 |int i=>obtain⟨t,e⟩:=(show ∃t,u=Value.int i t from r);cases e;rfl
 |str x=>obtain⟨t,e⟩:=(show ∃t,u=Value.str x t from r);cases e;rfl
 |byt b=>obtain⟨t,e⟩:=(show ∃t,u=Value.bytes b t from r);cases e;rfl
 |flt b=>obtain⟨t,e⟩:=(show ∃t,u=Value.float b t from r);cases e;rfl
 |ref a=>cases(show u=Value.ref a from r);rfl
 |ty n=>cases(show u=Value.type n from r);rfl
section
variable {P:Program}{w:World}{H H':Hp}{h h':Heap}{a C dx:Addr}{fs fs':List (Str×V)}
theorem a1V(hok:HOk P w H h)(e:H a=some (.ins C dx fs)):∃mA,ObjM h a dx C mA/\(∀f,RelO (fs.lookup f) (mA f))/\PySem.Within mA (fs.map (·.1))/\fs.length<=1000/\H dx=some (.own a):=by
 obtain⟨d,z,ne,b,mA,n,r,q⟩:=(show ObjOk P w H h a (.ins C dx fs)from hok a _ e);exact⟨mA,⟨b,n,ne⟩,r,q,z,d⟩
end
structure Cls(K:PySem.W.Frag)(C:Addr):Prop where
 pg:PySem.W.plainGet K C Str.empty=true
 hd:PySem.W.hasDictIn K C=true
 po:PySem.W.plainOver K C=true
 sa:PySem.W.findIn K (.ref C) "__setattr__"=some (some (.builtin "object.__setattr__"))
theorem Cls.get{K:PySem.W.Frag}{C:Addr}(c:Cls K C)(f:Str):PySem.W.plainGet K C f=true:=c.pg
def NoAttr(K:PySem.W.Frag)(C:Addr)(f:Str):Prop:=PySem.W.findIn K (.ref C) f=some none
theorem NoAttr.taker{K:PySem.W.Frag}{C:Addr}{f:Str}(n:NoAttr K C f):PySem.W.takerIn K C f=some none:=by
 unfold PySem.W.takerIn;rw[show PySem.W.findIn K (.ref C) f=some none from n];rfl
structure Meth(K:PySem.W.Frag)(C:Addr)(m:Str)(f:Addr):Prop where
 at_:PySem.W.findIn K (.ref C) m=some (some (.ref f))
 fn:PySem.W.isFn K (.ref f)=true
 kp:PySem.W.keepIn K (.ref f)=true
section
variable {X:Cx}{pins:List (Addr×Obj)}{σ:St}{H:Hp}{s:Shared}{a C dx:Addr}{fs:List (Str×V)}{f:Str}{v:V}{A:Around}{E:Value->Shared->Prop}
theorem a7h{b:Bool}{Q:Value->Shared->Prop}(I:Inv X pins σ H s)(e:H a=some (.ins C dx fs))(c:Cls X.K C)(n:NoAttr X.K C f)(l:fs.lookup f=some v)
  (h:∀u s',Inv X pins σ H s'->RelV v u->Q u s'):wpAny (model X.prog X.w) A (getAttr (.ref a) f b) Q E s:=by
 obtain⟨mA,O,r,_,_,_⟩:=a1V I.hok e;obtain⟨u,g,d⟩:=RelO.some_of (v:=v) (o:=mA f) (by rw[<-l];exact r f);exact b4h I.kIn O (c.get f) c.hd n g (a9z d) (h u _ (I.tok _) d)
theorem a2P{m:Str}{g:Addr}{pl:Sem Bool}{Q:Value×List Value->Shared->Prop}(I:Inv X pins σ H s)(e:H a=some (.ins C dx fs))(c:Cls X.K C)(k:Meth X.K C m g)(l:fs.lookup m=none)
  (h:Q (.ref g,[.ref a]) s):wpAny (model X.prog X.w) A (getMethod (.ref a) m pl) Q E s:=by
 obtain⟨mA,O,r,_,_,_⟩:=a1V I.hok e;have b:mA m=none:=RelO.none_of (by rw[<-l];exact r m);exact b1Z I.kIn O (c.get m) k.at_ k.fn b h
theorem a6C{y:V}{u:Value}{Q:Unit->Shared->Prop}(I:Inv X pins σ H s)(e:H a=some (.ins C dx fs))(c:Cls X.K C)(n:NoAttr X.K C f)(hl:fs.length<1000)(k:RelV y u)
  (h:∀s',Inv X pins σ (upd H a (.ins C dx (I0 f y fs))) s'->Q () s'):wpAny (model X.prog X.w) A (setAttr (.ref a) f u) Q E s:=by
 obtain⟨mA,O,r,wi,_,i⟩:=a1V I.hok e;have j:(fs.map (·.1)).length<=sizeLine:=by rw[List.length_map,sizeLine_eq];omega
 refine b2V I.kIn O c.sa c.po n.taker c.hd wi j λh' d sb=>h _ ?_;have hd:∃o,h'.get? dx=some o:=let ⟨o,_,_,e',_⟩:=d.ns;⟨o,e'⟩
 refine I.write (x:=a) (e:=dx) (by rw[e];exact True.intro) (.inr i) (λb q hb z=>(sb.2 b hb).trans z) hd ?_;refine⟨by rw[A2 O.ne];exact i,?_,O.ne,d.obj,_,d.ns,λg=>?_,λg l=>?_⟩
 .have:=a1r f y fs;omega
 .show RelO ((I0 f y fs).lookup g) (if g=f then some u else mA g);rw[a1p];by_cases q:g=f
  .rw[if_pos q,if_pos q];exact k
  .rw[if_neg q,if_neg q];exact r g
 .by_cases q:g=f
  .rw[q];exact(a0W f y fs).1
  .refine(a0W f y fs).2 g (wi g λz=>l ?_);show(if g=f then some u else mA g)=none;rw[if_neg q];exact z
theorem Inv.made(I:Inv X pins σ H s):Inv X pins σ (upd (upd H s.heap.objs.size (.own (s.heap.objs.size+1))) (s.heap.objs.size+1) (.ins C s.heap.objs.size []))
  {s with heap:=(s.heap.push PySem.W.emptyDict).push (PySem.W.instObj C s.heap.objs.size)}:=by
 have c:(s.heap.push PySem.W.emptyDict).get? s.heap.objs.size=some PySem.W.emptyDict:=Heap.get?_push_size s.heap rfl;have h:((s.heap.push PySem.W.emptyDict).push (PySem.W.instObj C s.heap.objs.size)).get? (s.heap.objs.size+1)=some (PySem.W.instObj C s.heap.objs.size):=by
  have:=Heap.get?_push_size (s.heap.push PySem.W.emptyDict) (o:=PySem.W.instObj C s.heap.objs.size) rfl;rwa[Heap.size_push]at this
 have d:(s.heap.push PySem.W.emptyDict).Ns s.heap.objs.size (λ_=>none):=⟨PySem.W.emptyDict,#[],_,c,rfl,(λe i=>absurd i (by simp)),λ_=>rfl⟩;have f:=I.laid (a:=s.heap.objs.size) (o:=.own (s.heap.objs.size+1)) (h':=s.heap.push PySem.W.emptyDict) (t':=s.toks) (λb u q=>Heap.get?_push_of_some _ q) (Nat.le_refl _) ⟨_,c⟩;refine f.laid (a:=s.heap.objs.size+1) (o:=.ins C s.heap.objs.size []) (t':=s.toks) (λb u q=>Heap.get?_push_of_some _ q) (Nat.le_of_eq (Heap.size_push _ _)) ?_;have ne:s.heap.objs.size≠s.heap.objs.size+1:=Nat.ne_of_lt (Nat.lt_succ_self _);refine⟨by rw[A2 ne,A0],Nat.zero_le _,ne,h,λ_=>none,(Heap.Ns1.of_empty d).at λo q=>Heap.get?_push_of_some _ q,λ_=>True.intro,λy g=>absurd rfl g⟩
theorem b4w{prog:Program}{w:World}{env:Env}{e:Expr}{f:Str}{pos:Pos}{s:Shared}{Q:Value->Shared->Prop}(hb:attributeBase e f env (eval e env)=eval e env)
  (h:wpAny (model prog w) A (eval e env) (λo s₁=>wpAny (model prog w) A (getAttr o f true) Q E s₁) E s):wpAny (model prog w) A (eval (.Attribute e f pos) env) Q E s :=
 Attribute_any_ h (by rw[arm_eval_Attribute,hb])
end
def b7c(K:PySem.W.Frag)(ta:TE)(f:Str):TE:=λσ H Q=>ta σ H λx H1=>∃a C dx fs v,x=.ref a/\H1 a=some (.ins C dx fs)/\Cls K C/\NoAttr K C f/\fs.lookup f=some v/\Q v H1
def b7e(K:PySem.W.Frag)(ta tv:TE)(f:Str):TS:=λD σ H=>tv σ H λy H1=>ta σ H1 λx H2=>∃a C dx fs,x=.ref a/\H2 a=some (.ins C dx fs)/\Cls K C/\NoAttr K C f/\fs.length<1000 /\
 D.nx σ (upd H2 a (.ins C dx (I0 f y fs)))
section
variable {X:Cx}{o e value:Expr}{f:Str}{pos pos' tpos:Pos}{ta tv:TE}
theorem b5N(i:PE X e ta)(hb:attributeBase e f X.env (eval e X.env)=eval e X.env):PE X (.Attribute e f pos) (b7c X.K ta f):=by
 intro pins s σ H Q I h;refine b4w hb (thn (i pins s σ H _ I h) λu s1 ⟨x,H1,d,b,a,C,dx,fs,v,ex,j,c,n,l,q⟩=>?_);subst ex;obtain rfl:u=Value.ref a:=b;exact a7h d j c n l λm s2 g k=>⟨v,H1,g,k,q⟩
theorem b5A(ha:PE X o ta)(k:PE X value tv)(hs:swapsWith value (some (.Attribute o f pos')) pos.line X.env=pure false):PS X (.Assign [.Attribute o f pos'] value pos) (b7e X.K ta tv f):=by
 intro pins s σ H D I h;refine plainObj_wpAny_Assign_Attribute (thn (k pins s σ H _ I h) λu s1 ⟨y,H1,e,g,q⟩=>thn (ha pins s1 σ H1 _ e q) λp s2 ⟨x,H2,j,d,a,C,dx,fs,ex,m,c,n,l,b⟩=>?_) hs;subst ex;obtain rfl:p=Value.ref a:=d;exact a6C j m c n l g λr i=>⟨σ,_,i,b⟩
end
section
variable {X:Cx}{pins:List (Addr×Obj)}{σ:St}{H:Hp}{s:Shared}{A:Around}{E:Value->Shared->Prop}{Q:Value->Shared->Prop}{c:Value}{b:Bool}
inductive TyOf(K:PySem.W.Frag)(H:Hp):V->Value->Prop where
 |non:TyOf K H .non (.type "NoneType")
 |bl (x:Bool):TyOf K H (.bl x) (.type "bool")
 |int (i:Int):TyOf K H (.int i) (.type "int")
 |str (x:Str):TyOf K H (.str x) (.type "str")
 |flt (x:UInt64):TyOf K H (.flt x) (.type "float")
 |lst {a:Addr}{xs:List V}(e:H a=some (.lst xs)):TyOf K H (.ref a) (.type "list")
 |frz {a:Addr}{o:Obj}{xs:List V}(e:H a=some (.frz o (.lst xs))):TyOf K H (.ref a) (.type "list")
 |tup {a:Addr}{xs:List V}(e:H a=some (.tup xs)):TyOf K H (.ref a) (.type "tuple")
 |dK {a:Addr}{kvs:List (Key×V)}(e:H a=some (.dK kvs)):TyOf K H (.ref a) (.type "dict")
 |dT {a:Addr}{kvs:List (List Key×V)}(e:H a=some (.dT kvs)):TyOf K H (.ref a) (.type "dict")
 |ins {a C dx:Addr}{fs:List (Str×V)}(e:H a=some (.ins C dx fs)) (cl:Cls K C) (ha:PySem.W.findIn K (.ref C) "__class__"=some (some (.builtin "object.__class__")))
   (hn:PySem.W.specialIn K (.builtin "object.__class__") "__get__"=some (some (.builtin "getset_descriptor.__get__"))) (htk:PySem.W.takesIn K (.builtin "object.__class__")=some true)
   (hm:PySem.W.mroIn K C (.type "object")=some true):TyOf K H (.ref a) (.ref C)
theorem a9w{x:V}{u t:Value}(I:Inv X pins σ H s)(d:RelV x u)(ty:TyOf X.K H x t)(e:PySem.W.kitOne X.K t c=some b)(h:∀tk,Q (.bool b) {s with toks:=tk}) :
  wpAny (model X.prog X.w) A (call (.builtin "isinstance") [u,c]) Q E s:=by
 cases ty with
 |non=>cases(show u=Value.none from d);exact PySem.W.kia_one PySem.W.kitx_none I.kIn True.intro e (λz=>nomatch z) h
 |bl y=>cases(show u=Value.bool y from d);exact PySem.W.kia_one PySem.W.kitx_bool I.kIn True.intro e (λz=>nomatch z) h
 |int i=>obtain⟨t,q⟩:=(show ∃t,u=Value.int i t from d);cases q;exact PySem.W.kia_one PySem.W.kitx_int I.kIn True.intro e (λz=>nomatch z) h
 |str y=>obtain⟨t,q⟩:=(show ∃t,u=Value.str y t from d);cases q;exact PySem.W.kia_one PySem.W.kitx_str I.kIn True.intro e (λz=>nomatch z) h
 |flt y=>obtain⟨t,q⟩:=(show ∃t,u=Value.float y t from d);cases q;exact PySem.W.kia_one PySem.W.kitx_float I.kIn True.intro e (λz=>nomatch z) h
 |@lst a xs ea =>
  cases(show u=Value.ref a from d);obtain⟨_,_,n,_,h1⟩:=(show ObjOk X.prog X.w H s.heap a (.lst xs)from I.hok a _ ea);exact PySem.W.kia_one PySem.W.kitx_list I.kIn ⟨_,h1,rfl⟩ e (λz=>nomatch z) h
 |@frz a ob xs ea =>
  cases(show u=Value.ref a from d);obtain⟨_,_,_,n,_,h1⟩:=(show ObjOk X.prog X.w H s.heap a (.frz ob (.lst xs))from I.hok a _ ea);exact PySem.W.kia_one PySem.W.kitx_list I.kIn ⟨_,h1,rfl⟩ e (λz=>nomatch z) h
 |@tup a xs ea =>
  cases(show u=Value.ref a from d);obtain⟨_,_,_,p⟩:=(show ObjOk X.prog X.w H s.heap a (.tup xs)from I.hok a _ ea);obtain⟨o,h1,h2,_⟩:=p;exact PySem.W.kia_one PySem.W.kitx_tuple I.kIn ⟨o,h1,h2⟩ e (λz=>nomatch z) h
 |@dK a kvs ea =>
  cases(show u=Value.ref a from d);obtain⟨_,_,vs,_,p⟩:=(show ObjOk X.prog X.w H s.heap a (.dK kvs)from I.hok a _ ea);obtain⟨o,es,ep,h1,h2,_⟩:=p;exact PySem.W.kia_one PySem.W.kitx_dict I.kIn ⟨o,h1,h2.1⟩ e (λz=>nomatch z) h
 |@dT a kvs ea =>
  cases(show u=Value.ref a from d);obtain⟨_,_,xs,_,o,es,ep,h1,h2,_⟩:=(show ObjOk X.prog X.w H s.heap a (.dT kvs)from I.hok a _ ea);exact PySem.W.kia_one PySem.W.kitx_dict I.kIn ⟨o,h1,h2.1⟩ e (λz=>nomatch z) h
 |@ins a C dx fs ea cl ha hn htk hm =>
  cases(show u=Value.ref a from d);obtain⟨mA,O,_⟩:=a1V I.hok ea;obtain⟨od,J,_⟩:=O.look;exact PySem.W.kia_one (PySem.W.kitx_own (cl.get _) cl.hd ha hn htk hm) I.kIn J e (λz=>nomatch z) h
end
structure Room(k:Nat)(A:Around):Prop where
 hd:A.handled=none
 dp:A.depth+3*k+5<recursionLimit
 un:A.units+16*k+200<cLine
theorem Room.mono{j k:Nat}{A:Around}(r:Room k A)(h:j<=k):Room j A:=⟨r.hd,by have:=r.dp;omega,by have:=r.un;omega⟩
theorem Room.deeper{k:Nat}{A:Around}(r:Room (k+1) A)(env:Env):Room k (A.deeper env) :=
 ⟨r.hd,by have:=r.dp;show A.depth+1+3*k+5<_;omega,by have:=r.un;show A.units+3+16*k+200<_;omega⟩
theorem a7b{A:Around}{C:Addr}{us:List Value}{a:List (Str×Value)}:(A.under (.builtin "type.__call__" ⟨.ref C::us,a⟩)).depth=A.depth+1:=by
 first|rfl|simp[Around.under,Code.weight,Code.isCreation,Code.isGuard,Code.isCaller,Code.frames,Code.isFrame,guardIds]
theorem a7a{A:Around}{C:Addr}{us:List Value}{a:List (Str×Value)}:(A.under (.builtin "type.__call__" ⟨.ref C::us,a⟩)).units=A.units+1:=by
 first|rfl|simp[Around.under,Code.cUnits,Code.frames,Code.isFrame]
theorem Room.make{k:Nat}{A:Around}(r:Room (k+1) A)(C:Addr)(us:List Value)(a:List (Str×Value)):Room k (A.under (.builtin "type.__call__" ⟨.ref C::us,a⟩)) :=
 ⟨r.hd,by have:=r.dp;rw[a7b];omega,by have:=r.un;rw[a7a];omega⟩
theorem Room.depth{k:Nat}{A:Around}(r:Room k A):A.depth<recursionLimit:=by have:=r.dp;omega
def R9:TA:=λ_ H Q=>Q [] H
def U4(ta:TE)(tr:TA):TA:=λσ H Q=>ta σ H λx H1=>tr σ H1 λxs H2=>Q (x::xs) H2
section
variable {X:Cx}{e:Expr}{es:List Expr}{te:TE}{t:TA}{pos:Pos}
theorem b5R:PA X [] R9:=λ_ _ _ _ H Q I h=>Calls.spliced_nil ⟨[],H,I,.nil,h⟩
theorem b3E(ha:PE X e te)(c:PA X es t)(hs:starEach (e::es) X.env=(false,eval e X.env)::starEach es X.env:=by rfl):PA X (e::es) (U4 te t):=by
 intro pos pins s σ H Q I h;rw[hs];show wpAny _ _ (spliced ((false,eval e X.env)::backTo pos (starEach es X.env))) _ _ s;refine Calls.spliced_cons (thn (ha pins s σ H _ I h) λu s1 ⟨x,H1,d,g,b⟩=>?_);exact thn (c pos pins s1 σ H1 _ d b) λus s2 ⟨xs,H2,f,i,a⟩=>⟨x::xs,H2,f,.cons g i,a⟩
def a5l(t:TA):TE:=λσ H Q=>t σ H λxs H1=>xs.length<=sizeLine/\∀p,H1 p=none->Q (.ref p) (upd H1 p (.tup xs))
def a5m(t:TA):TE:=λσ H Q=>t σ H λxs H1=>xs.length<=sizeLine/\∀p,H1 p=none->Q (.ref p) (upd H1 p (.lst xs))
theorem b5G{x1}(h:PA X es t):PE X (.Tuple es x1 pos) (a5l t):=by
 intro pins s σ H Q I c;refine wpAny_Tuple_spliced (thn (h pos pins s σ H _ I c) λus s1 ⟨xs,H1,a,r,z,q⟩=>⟨by rw[<-r.length];exact z,?_⟩);have hf:H1 s1.heap.objs.size=none:=a.hok.fresh (Nat.le_refl _);refine⟨.ref s1.heap.objs.size,upd H1 s1.heap.objs.size (.tup xs),a.laid (t':=s1.toks) (λb u e=>Heap.get?_push_of_some _ e) (Nat.le_refl _) ?_,rfl,q _ hf⟩;exact⟨z,us,r,⟨_,Heap.get?_push_size _ rfl,rfl,_,rfl⟩⟩
theorem b5L(h:PA X es t):PE X (.List es pos) (a5m t):=by
 intro pins s σ H Q I c;refine wpAny_List_spliced (thn (h pos pins s σ H _ I c) λus s1 ⟨xs,H1,a,r,z,q⟩=>⟨by rw[<-r.length];exact z,?_⟩);have hf:H1 s1.heap.objs.size=none:=a.hok.fresh (Nat.le_refl _);refine⟨.ref s1.heap.objs.size,upd H1 s1.heap.objs.size (.lst xs),a.laid (t':=s1.toks) (λb u e=>Heap.get?_push_of_some _ e) (Nat.le_refl _) ?_,rfl,q _ hf⟩;exact⟨z,us,0,r,Heap.get?_push_size _ rfl⟩
end
abbrev Sp:=List V->Hp->VK->XK->Prop
abbrev CXT:=List Env->Hp->Shared->XK->Value->Shared->Prop
structure Env0(P:Program)(w:World)(K:PySem.W.Frag)(mg:Str->Option Value)(base:Heap)(A:Around)(outer:List Env)(s:Shared)(H:Hp):Prop where
 frames:A.frames=some outer
 mod:Mod K mg base
 bs:∀b o,base.get? b=some o->s.heap.get? b=some o/\H b=none
 bsz:base.objs.size<=s.heap.objs.size
 funs:s.heap.FunFrames base outer
 frf:∀b∈frs outer,H b=none
 hok:HOk P w H s.heap
 bare:AllBare s.gens
def CE(outer:List Env)(P:Program)(w:World)(H:Hp)(s:Shared)(Q:VK)(u:Value)(s':Shared):Prop :=
 ∃v H',s'.os=s.os/\AllBare s'.gens/\Un (frs outer) [] H H' s.heap s'.heap/\HOk P w H' s'.heap/\RelV v u/\Q v H'
def CR(CX:CXT)(outer:List Env)(P:Program)(w:World)(H:Hp)(s:Shared)(Q:VK)(E:XK)(r:Result)(s':Shared):Prop :=
 match r with
 |.ok (.ret u)=>CE outer P w H s Q u s'
 |.ok _=>False
 |.error e=>CX outer H s E e s'
structure FnOk(P:Program)(w:World)(K:PySem.W.Frag)(mg:Str->Option Value)(base:Heap)(CX:CXT)(k:Nat)(f:Addr)(fd:FuncData)(ps:List Str)(sp:Sp):Prop where
 len:∀vs H Q E,sp vs H Q E->vs.length=ps.length
 run:∀(A:Around) (outer:List Env) (s:Shared) (H:Hp) (args:Args) (us:List Value) (vs:List V) (Q:VK) (E:XK),Room k A->Env0 P w K mg base A outer s H->BindsTo s fd args (ps.zip us)->Vals vs us->sp vs H Q E ->
  codeAny (model P w) A (.call (.ref f) args) (CR CX outer P w H s Q E) s
theorem Env0.make{P:Program}{w:World}{K:PySem.W.Frag}{mg:Str->Option Value}{base:Heap}{A:Around}{outer:List Env}{s:Shared}{H:Hp}(e:Env0 P w K mg base A outer s H)(C:Addr)(us:List Value)(a:List (Str×Value)) :
  Env0 P w K mg base (A.under (.builtin "type.__call__" ⟨.ref C::us,a⟩)) outer s H:=⟨by first|exact e.frames | (simpa[Around.under,Code.envs,Code.isFrame,pushEnvs]using e.frames),e.mod,e.bs,e.bsz,e.funs,e.frf,e.hok,e.bare⟩
section
variable {X:Cx}{pins:List (Addr×Obj)}{σ:St}{H:Hp}{s s':Shared}
theorem Inv.env0(I:Inv X pins σ H s):Env0 X.prog X.w X.K X.mg X.base X.A X.stack s H :=
 ⟨I.ok.frames,I.ok.mod,I.bs,Nat.le_trans I.ok.bsz I.sz,I.stack,I.stkFree,I.hok,I.bare⟩
theorem Inv.after{Q:VK}{u:Value}(I:Inv X pins σ H s)(h:CE X.stack X.prog X.w H s Q u s'):EP X pins σ Q u s':=by
 obtain⟨v,H',os,bare,un,hok,r,q⟩:=h;obtain⟨c,g,d,t,a⟩:=s';obtain rfl:a=s.os:=os;exact⟨v,H',I.call (h':=c) (g':=g) (d':=d) (t':=t) (ch:=[]) un hok bare (λb z=>absurd z (by simp)),r,q⟩
end
def a2d(sp:Sp)(dvs:List V)(E:XK)(t:TA):TE:=λσ H Q=>t σ H λvs H1=>sp (vs++dvs) H1 Q E
def a1m(C:Addr)(m:Str)(sp:Sp)(dvs:List V)(E:XK)(ta:TE)(t:TA):TE:=λσ H Q=>ta σ H λx H1=>∃a dx fs,x=.ref a/\H1 a=some (.ins C dx fs)/\fs.lookup m=none /\
 t σ H1 λvs H2=>sp (x::(vs++dvs)) H2 Q E
def b4D(C:Addr)(sp:Sp)(dvs:List V)(E:XK)(t:TA):TE:=λσ H Q=>t σ H λvs H1=>∀x dx,H1 x=none->H1 dx=none->dx≠x ->
 sp (.ref x::(vs++dvs)) (upd (upd H1 dx (.own x)) x (.ins C dx [])) (λv H2=>v=.non/\Q (.ref x) H2) E
def Binds(K:PySem.W.Frag)(fd:FuncData)(ps:List Str)(ds:List Value):Prop :=
 ∀(s:Shared) (us:List Value),K.In s.heap->(us++ds).length=ps.length->BindsTo s fd ⟨us,[]⟩ (ps.zip (us++ds))
theorem Binds.all{K:PySem.W.Frag}{fd:FuncData}{ps:List Str}(h:∀us:List Value,us.length=ps.length->bindArgs fd ⟨us,[]⟩=pure (ps.zip us)):Binds K fd ps []:=λs us _ hl=>by
 rw[List.append_nil]at hl⊢;exact .of_eq (h us hl)
def a0j(CX:CXT)(X:Cx)(E:XK):Prop:=∀(pins:List (Addr×Obj)) (σ:St) (H:Hp) (s:Shared) (e:Value) (s':Shared),Inv X pins σ H s->CX X.stack H s E e s'->X.xe e s'
section
variable {X:Cx}{CX:CXT}{k:Nat}{f C:Addr}{fd:FuncData}{ps:List Str}{sp:Sp}{dvs:List V}{ds:List Value}{E:XK}{x m:Str}{p pos apos:Pos}{e o:Expr}{es:List Expr}{ta:TE}{t:TA}
theorem a6I{pins:List (Addr×Obj)}{σ:St}{H:Hp}{s:Shared}{Q:VK}{us:List Value}{vs:List V}(F:FnOk X.prog X.w X.K X.mg X.base CX k f fd ps sp)(c:Room k X.A)(hb:Binds X.K fd ps ds)(hd:Vals dvs ds)(d:a0j CX X E)
  (I:Inv X pins σ H s) (r:Vals vs us) (h:sp (vs++dvs) H Q E):wpAny (model X.prog X.w) X.A (call (.ref f) us) (EP X pins σ Q) X.xe s:=by
 have b:Vals (vs++dvs) (us++ds):=r.append hd;have hl:(us++ds).length=ps.length:=by rw[<-b.length];exact F.len _ _ _ _ h
 refine wpAny_call (codeAny_mono (F.run X.A X.stack s H ⟨us,[]⟩ (us++ds) (vs++dvs) Q E c I.env0 (hb s us I.kIn hl) b h) λr s' a=>?_);cases r with
 |error e=>exact d pins σ H s e s' I a
 |ok fl =>
  cases fl with
  |ret u=>exact I.after a
  |next=>exact False.elim a
  |brk=>exact False.elim a
  |cont=>exact False.elim a
theorem b3C(F:FnOk X.prog X.w X.K X.mg X.base CX k f fd ps sp)(g:Room k X.A)(l:Gl X x)(j:X.mg x=some (.ref f))(i:PySem.W.keepIn X.K (.ref f)=true)(hb:Binds X.K fd ps ds)(hd:Vals dvs ds)(d:a0j CX X E)
  (ha:PA X (e::es) t) (b:(x==("__debug__" : Str))=false:=by decide) (m:starEach (e::es) X.env=(false,eval e X.env)::starEach es X.env:=by rfl) (a:(backTo pos (starEach es X.env)).any (·.1)=false:=by rfl) :
  PE X (.Call (.Name x p) (e::es) [] pos) (a2d sp dvs E t):=by
 intro pins s σ H Q I h;refine wpAny_Call_Name_kw (a0w I l j ?_ b);refine PySem.W.callWith_K (h₀:=X.base) I.ok.mod.kin i (thn (ha pos pins s σ H _ I h) λus s1 ⟨vs,H1,c,r,q⟩=>⟨c.kIn,?_⟩) m a;exact a6I F g hb hd d c r q
theorem b3z{pl:Sem Bool}(B:PE X o ta)(c:Cls X.K C)(i:Meth X.K C m f)(F:FnOk X.prog X.w X.K X.mg X.base CX k f fd ps sp)(y:Room k X.A)(hb:Binds X.K fd ps ds)(hd:Vals dvs ds)(n:a0j CX X E)(ha:PA X (e::es) t)
  (d:starEach (e::es) X.env=(false,eval e X.env)::starEach es X.env:=by rfl) (b:(backTo pos (starEach es X.env)).any (·.1)=false:=by rfl)
  (z:eval (.Call (.Attribute o m apos) (e::es) [] pos) X.env=(do
   let ov <-eval o X.env
   standAt apos.atName
   let (f,first) <-holding [ov] (getMethod ov m pl)
   callWith pos f first (backTo pos (starEach (e::es) X.env)) (backToKw pos (keywordEach [] X.env))):=by rfl) :
  PE X (.Call (.Attribute o m apos) (e::es) [] pos) (a1m C m sp dvs E ta t):=by
 intro pins s σ H Q I h;refine PySem.W.methodCall_KW (pl:=pl) (thn (B pins s σ H _ I h) λu s1 ⟨x,H1,g,v,a,dx,fs,ex,D,l,q⟩=>?_) z;subst ex;obtain rfl:u=Value.ref a:=v;refine a2P g D c i l ?_;refine PySem.W.callWith_K (first:=[.ref a]) (h₀:=X.base) I.ok.mod.kin i.kp (thn (ha pos pins s1 σ H1 _ g q) λus s2 ⟨vs,H2,j,r,p⟩=>⟨j.kIn,?_⟩) d b;exact a6I (us:=.ref a::us) (vs:=.ref a::vs) F y hb hd n j (.cons rfl r) p
theorem b1g{pl:Sem Bool}(n:PE X o ta)(c:Cls X.K C)(d:Meth X.K C m f)(F:FnOk X.prog X.w X.K X.mg X.base CX k f fd ps sp)(i:Room k X.A)(hb:Binds X.K fd ps ds)(hd:Vals dvs ds)(e:a0j CX X E)
  (j:eval (.Call (.Attribute o m apos) [] [] pos) X.env=(do
   let ov <-eval o X.env
   standAt apos.atName
   let (f,first) <-holding [ov] (getMethod ov m pl)
   callWith pos f first (backTo pos (starEach [] X.env)) (backToKw pos (keywordEach [] X.env))):=by rfl) :
  PE X (.Call (.Attribute o m apos) [] [] pos) (a1m C m sp dvs E ta R9):=by
 intro pins s σ H Q I h;refine PySem.W.methodCall_KW (pl:=pl) (thn (n pins s σ H _ I h) λu s1 ⟨x,H1,b,g,a,dx,fs,ex,p,l,q⟩=>?_) j;subst ex;obtain rfl:u=Value.ref a:=g;refine a2P b p c d l ?_;exact PySem.W.callWith_K0 (first:=[.ref a]) b.kIn d.kp (a6I (us:=[.ref a]) (vs:=[.ref a]) F i hb hd e b (.cons rfl .nil) q)
structure Mk(K:PySem.W.Frag)(C f:Addr):Prop where
 makes:PySem.W.makesIn K C=true
 init:PySem.W.findIn K (.ref C) "__init__"=some (some (.ref f))
 fn:PySem.W.isFn K (.ref f)=true
 kp:PySem.W.keepIn K (.ref C)=true
theorem b0H{pins:List (Addr×Obj)}{σ:St}{H:Hp}{s:Shared}{Q:VK}{us:List Value}{vs:List V}(M:Mk X.K C f)(F:FnOk X.prog X.w X.K X.mg X.base CX k f fd ps sp)(j:Room (k+1) X.A)(hb:Binds X.K fd ps ds)(hd:Vals dvs ds)
  (g:a0j CX X E) (I:Inv X pins σ H s) (r:Vals vs us)
  (h:∀x dx,H x=none->H dx=none->dx≠x->sp (.ref x::(vs++dvs)) (upd (upd H dx (.own x)) x (.ins C dx [])) (λv H2=>v=.non/\Q (.ref x) H2) E) :
  wpAny (model X.prog X.w) X.A (call (.ref C) us) (EP X pins σ Q) X.xe s:=by
 have c:=h (s.heap.objs.size+1) s.heap.objs.size (I.hok.fresh (Nat.le_succ _)) (I.hok.fresh (Nat.le_refl _)) (Nat.ne_of_lt (Nat.lt_succ_self _));have b:=Inv.made (C:=C) I;have d:Vals (V.ref (s.heap.objs.size+1)::(vs++dvs)) (Value.ref (s.heap.objs.size+1)::(us++ds)):=.cons rfl (r.append hd);have hl:(Value.ref (s.heap.objs.size+1)::us++ds).length=ps.length:=by
  have e:=d.length;rw[F.len _ _ _ _ c]at e;exact e.symm
 refine wpAny_call (b1C (f:=f) I.kIn M.makes M.init (beq_iff_eq.mp M.fn) (codeAny_mono (F.run _ X.stack _ _ ⟨Value.ref (s.heap.objs.size+1)::us,[]⟩ (Value.ref (s.heap.objs.size+1)::(us++ds)) _ _ E (j.make C us [])
  (b.env0.make C us []) (hb _ (Value.ref (s.heap.objs.size+1)::us) b.kIn hl) d c) λr s' a=>?_))
 cases r with
 |error e=>exact g pins σ _ _ e s' b a
 |ok fl =>
  cases fl with
  |ret u =>
   obtain⟨v,H',l,i,n,m⟩:=b.after a;subst n;exact⟨i,⟨V.ref (s.heap.objs.size+1),H',l,rfl,m⟩⟩
  |next=>exact False.elim a
  |brk=>exact False.elim a
  |cont=>exact False.elim a
theorem b3A(M:Mk X.K C f)(F:FnOk X.prog X.w X.K X.mg X.base CX k f fd ps sp)(g:Room (k+1) X.A)(j:Gl X x)(i:X.mg x=some (.ref C))(hb:Binds X.K fd ps ds)(hd:Vals dvs ds)(d:a0j CX X E)
  (ha:PA X (e::es) t) (b:(x==("__debug__" : Str))=false:=by decide) (l:starEach (e::es) X.env=(false,eval e X.env)::starEach es X.env:=by rfl) (a:(backTo pos (starEach es X.env)).any (·.1)=false:=by rfl) :
  PE X (.Call (.Name x p) (e::es) [] pos) (b4D C sp dvs E t):=by
 intro pins s σ H Q I h;refine wpAny_Call_Name_kw (a0w I j i ?_ b);refine PySem.W.callWith_K (h₀:=X.base) I.ok.mod.kin M.kp (thn (ha pos pins s σ H _ I h) λus s1 ⟨vs,H1,c,r,q⟩=>⟨c.kIn,?_⟩) l a;exact b0H M F g hb hd d c r q
end
section
variable {X:Cx}{CX:CXT}{k:Nat}{f C:Addr}{fd:FuncData}{ps ks:List Str}{sp:Sp}{E:XK}{x m:Str}{p pos apos kpos:Pos}{e o:Expr}{es:List Expr}{kws:List Keyword}{te ta:TE}{t tk:TA}{nm:Option Str}
variable {g:List Value->List Value->List Value}{gV:List V->List V->List V}
end
structure FnScope(N P:List Str)(sc:Scope):Prop where
 kind:sc.kind=.function
 co:sc.isCoroutine=false
 gen:sc.isGenerator=false
 nd:N.Nodup
 pre:N.take P.length=P
 par:∀x∈P,sc.names.lookup x=some .local∨sc.names.lookup x=some .cell
 nofree:∀y∈sc.names,y.2≠.free
theorem a3Y{kindOf:Str->Option NameKind}{x:Str}:∀{binds:List (Str×Value)}{m:Str->Option Value},(∀v,(x,v)∉binds)->bindL kindOf binds m x=m x
 |[],_,_=>rfl
 |(n,v)::r,m,h=>by
  unfold bindL;rw[a3Y λw hw=>h w (List.mem_cons_of_mem _ hw)];split
  .have:x≠n:=by rintro rfl;exact h v List.mem_cons_self
   simp[this]
  .rfl
theorem a4a{kindOf:Str->Option NameKind}{x:Str}:∀{binds:List (Str×Value)}{m:Str->Option Value},(∀v,(x,v)∉binds)->bindC kindOf binds m x=m x
 |[],_,_=>rfl
 |(n,v)::r,m,h=>by
  unfold bindC;rw[a4a λw hw=>h w (List.mem_cons_of_mem _ hw)];split
  .rfl
  .have:x≠n:=by rintro rfl;exact h v List.mem_cons_self
   simp[this]
theorem a3Z{kindOf:Str->Option NameKind}{x:Str}{v:Value}:∀{P:List Str}{vs:List Value}{i:Nat}{m:Str->Option Value},P.Nodup->P[i]?=some x->vs[i]?=some v->kindOf x=some .local ->
  bindL kindOf (P.zip vs) m x=some v
 |[],_,_,_,_,h,_,_=>by simp at h
 |_::_,[],_,_,_,_,h,_=>by simp at h
 |p::P,w::vs,0,m,nd,h1,h2,hk=>by
  simp at h1 h2;subst h1;subst h2;show bindL kindOf ((p,w)::P.zip vs) m p=_;unfold bindL;rw[a3Y λv a=>(List.nodup_cons.mp nd).1 (List.of_mem_zip a).1,if_pos hk];simp
 |p::P,w::vs,i+1,m,nd,h1,h2,hk=>by
  show bindL kindOf ((p,w)::P.zip vs) m x=_;unfold bindL;exact a3Z (i:=i) (List.nodup_cons.mp nd).2 (by simpa using h1) (by simpa using h2) hk
theorem a4b{kindOf:Str->Option NameKind}{x:Str}{v:Value}:∀{P:List Str}{vs:List Value}{i:Nat}{m:Str->Option Value},P.Nodup->P[i]?=some x->vs[i]?=some v->kindOf x≠some .local ->
  bindC kindOf (P.zip vs) m x=some v
 |[],_,_,_,_,h,_,_=>by simp at h
 |_::_,[],_,_,_,_,h,_=>by simp at h
 |p::P,w::vs,0,m,nd,h1,h2,hk=>by
  simp at h1 h2;subst h1;subst h2;show bindC kindOf ((p,w)::P.zip vs) m p=_;unfold bindC;rw[a4a λv a=>(List.nodup_cons.mp nd).1 (List.of_mem_zip a).1,if_neg hk];simp
 |p::P,w::vs,i+1,m,nd,h1,h2,hk=>by
  show bindC kindOf ((p,w)::P.zip vs) m x=_;unfold bindC;exact a4b (i:=i) (List.nodup_cons.mp nd).2 (by simpa using h1) (by simpa using h2) hk
noncomputable def start(N:List Str)(vs:List V):St:=vs.map some++List.replicate (N.length-vs.length) none
noncomputable def V0(CX:CXT)(P:Program)(w:World)(K:PySem.W.Frag)(mg:Str->Option Value)(base:Heap)(N:List Str)(qual:Str)(scope:Scope)(f:Addr)(cd:Value)(A:Around)(outer:List Env)(s:Shared)(H:Hp)(E:XK):Cx where
 prog:=P
 w:=w
 K:=K
 mg:=mg
 base:=base
 A:=A.deeper (envOfC qual scope s.heap.objs.size f cd)
 N:=N
 s₀:=s
 H₀:=H
 env:=envOfC qual scope s.heap.objs.size f cd
 outer:=outer
 stack:=envOfC qual scope s.heap.objs.size f cd::outer
 ex:=[]
 calm:=true
 fn:=λ_=>true
 pn:=[]
 xe:=λe s'=>wpAny (model P w) (A.deeper (envOfC qual scope s.heap.objs.size f cd)) (leaving (envOfC qual scope s.heap.objs.size f cd) e) (λ_ s''=>CX outer H s E e s'') (λe' s''=>CX outer H s E e' s'') s'
theorem a6k{a:Scope}{n:Nat}{x:Str}(h:a.names.lookup x=some .cell):∃c,(cellsFrom n a.names []).lookup x=some c:=by
 have q:=PySem.W.cellsFrom_some a.names n [] (.inl h);exact Option.isSome_iff_exists.mp q
theorem a9x{CX:CXT}{P:Program}{w:World}{K:PySem.W.Frag}{mg:Str->Option Value}{base:Heap}{N ps:List Str}{qual:Str}{scope:Scope}{f:Addr}{cd:Value}{A:Around}{outer:List Env}{s s1:Shared}{H:Hp}{E:XK}{us:List Value}{vs:List V}
  (S:FnScope N ps scope) (hd:A.handled=none) (d:Env0 P w K mg base A outer s H) (hl:vs.length=ps.length) (r:Vals vs us)
  (x:InCallC s s.heap.objs.size (bindL (envOfC qual scope s.heap.objs.size f cd).kindOf (ps.zip us) λ_=>none) (cellsFrom (s.heap.objs.size+1) scope.names []) (bindC (envOfC qual scope s.heap.objs.size f cd).kindOf (ps.zip us) λ_=>none) s1) :
  Inv (V0 CX P w K mg base N qual scope f cd A outer s H E) [] (start N vs) H s1:=by
 have B:ps.length<=N.length:=by have:=congrArg List.length S.pre;rw[List.length_take]at this;omega
 obtain⟨h1,tk,rfl,o⟩:=x.done;have j:∀b:Addr,b∉(V0 CX P w K mg base N qual scope f cd A outer s H E).ex:=λb z=>absurd (show b∈([]:List Addr)from z) (by simp);refine⟨⟨d.mod,S.kind,rfl,rfl,Nat.le_refl _,λy z c h1 h2=>?_,λy g=>?_,λy c _ h=>?_,λ_=>hd,Around.frames_deeper d.frames,.inr ⟨rfl,rfl⟩,λb z=>absurd z (j b),d.bs,d.bsz,λb _ _=>j b,λb z=>absurd z (j b),d.funs,d.frf⟩,
  rfl,d.bare,Un.kept o,⟨_,x.toInCall.ns,λi y v h1 h2 C=>?_⟩,λy c h=>⟨_,x.cell y c h⟩,d.hok.fresh (Nat.le_refl _),λy c h=>?_,λp hp=>absurd (show p∈([]:List (Addr×Obj))from hp) (by simp),d.hok.kept o,?_⟩
 .exact name_of_addr x.apart (PySem.mem_of_lookup h1) (PySem.mem_of_lookup h2)
 .have g:scope.names.lookup y=some .cell∨scope.names.lookup y=some .free:=g;rcases g with g|g
  .exact a6k g
  .exact absurd rfl (S.nofree _ (PySem.mem_of_lookup g))
 .exact Nat.le_of_lt (x.above y c (PySem.mem_of_lookup h))
 .have hi:i<vs.length:=by
   unfold start at h2;by_cases hi:i<vs.length
   .exact hi
   .rw[List.getElem?_append_right (by simpa using hi)]at h2;rw[List.getElem?_replicate]at h2;split at h2<;>cases h2
  have ha:vs[i]?=some v:=by
   unfold start at h2;rw[List.getElem?_append_left (by simpa using hi),List.getElem?_map]at h2;cases e:vs[i]? with
   |none=>rw[e]at h2;cases h2
   |some a=>rw[e]at h2;cases h2;rfl
  obtain⟨u,m,t⟩:=r.get ha;have hp:ps[i]?=some y:=by
   rw[<-S.pre,List.getElem?_take_of_lt (by omega)];exact h1
  have l:ps.Nodup:=by rw[<-S.pre];exact S.nd.sublist (List.take_sublist _ _)
  refine⟨u,t,?_⟩;rcases S.par y (List.mem_of_getElem? hp)with k|k
  .exact .inl ⟨k,a3Z l hp m k⟩
  .obtain⟨c,e⟩:=a6k (n:=s.heap.objs.size+1) k;refine .inr ⟨.inl k,c,e,?_⟩;have q:=x.cell y c e;rw[a4b l hp m (by show scope.names.lookup y≠_;rw[k];decide)]at q;exact q
 .exact d.hok.fresh (Nat.le_of_lt (x.above y c (PySem.mem_of_lookup h)))
 .unfold start;show _=N.length;rw[List.length_append,List.length_map,List.length_replicate];omega
theorem b5b{CX:CXT}{P:Program}{w:World}{K:PySem.W.Frag}{mg:Str->Option Value}{base:Heap}{k:Nat}{f:Addr}{name qual:Str}{params:Arguments}{body:List Stmt}{scope:Scope}{B kV g pm a ct oc:Value}{an od:Option Addr}
  {m:Array (Option Value)}{N ps:List Str}{sp:Sp}(D:K.lookup f=some ⟨oc,od,.func (PySem.W.fnOf name qual params body scope B kV g pm an a ct),m⟩) (z:PySem.W.codeIn K a qual=true) (S:FnScope N ps scope)
  (len:∀vs H Q E,sp vs H Q E->vs.length=ps.length)
  (d:∀(A:Around) (outer:List Env) (s:Shared) (H:Hp) (vs:List V) (Q:VK) (E:XK),Room k (A.deeper (envOfC qual scope s.heap.objs.size f a))->sp vs H Q E ->
   ∃t,PSs (V0 CX P w K mg base N qual scope f a A outer s H E) body t/\t {nx:=λ_ H'=>Q .non H',rt:=Q} (start N vs) H) :
  FnOk P w K mg base CX (k+1) f (PySem.W.fnOf name qual params body scope B kV g pm an a ct) ps sp:=by
 refine⟨len,λA outer s H args us vs Q E l h hb r i=>?_⟩;have hl:=len _ _ _ _ i;have C:K.In s.heap:=h.mod.kin.keeps λb o e=>(h.bs b o e).1;have p:s.heap.NoLimit:=h.mod.nolimit.keeps λb o e=>(h.bs b o e).1;have c:∀y∈ps.zip us,scope.names.lookup y.1=some .local∨(scope.names.lookup y.1=some .cell/\((cellsFrom (s.heap.objs.size+1) scope.names []).lookup y.1).isSome=true):=λ⟨n,v⟩ G=>by
  rcases S.par n (List.of_mem_zip G).1 with q|q
  .exact .inl q
  .exact .inr ⟨q,PySem.W.cellsFrom_some _ _ _ (.inl q)⟩
 refine codeAny_call_function l.depth (C _ _ D) rfl S.co S.gen rfl (PySem.W.codeRec_of C z) (hb _ _ _ _ ?_);refine wpAny_newFunctionEnv_cells S.kind c λenv M s1 x=>?_;subst M;refine⟨p.keeps x.toInCall.keep,codeAny_func ?_⟩;obtain⟨t,L,F⟩:=d A outer s H vs Q E (l.deeper _) i;have I:Inv (V0 CX P w K mg base N qual scope f a A outer s H E) [] (start N vs) H s1:=a9x S l.hd h hl r x;refine wpAny_mono (L [] s1 (start N vs) H _ I F) (λfl s' hs=>?_) λe s' hs=>hs;have fin:∀{σ':St}{H':Hp}{v:V}{u:Value},Inv (V0 CX P w K mg base N qual scope f a A outer s H E) [] σ' H' s'->RelV v u->Q v H'->CE outer P w H s Q u s' :=
  λ{σ' H' v u} J j q=>⟨v,H',J.os,J.bare,J.base,J.hok,j,q⟩
 cases fl with
 |ret u =>
  obtain⟨v,σ',H',J,j,q⟩:=hs;exact fin J j q
 |next =>
  obtain⟨σ',H',J,q⟩:=hs;exact fin (v:=V.non) (u:=Value.none) J rfl q
 |brk =>
  obtain⟨_,_,_,q⟩:=hs;exact False.elim q
 |cont =>
  obtain⟨_,_,_,q⟩:=hs;exact False.elim q
section
variable {X:Cx}{x:Str}{p pos:Pos}{e:Expr}{es:List Expr}{t:TA}{id T:String}{r:List V->Hp->VK->Prop}
def tCB(r:List V->Hp->VK->Prop)(t:TA):TE:=λσ H Q=>t σ H λvs H1=>r vs H1 Q
theorem E9(hc:D0 X (.builtin id) r)(j:Gl X x)(g:X.mg x=none)(l:bootBuiltins x=some (.builtin id))(ha:PA X (e::es) t)(f:x≠"__name__":=by decide)(b:(x==("__debug__" : Str))=false:=by decide)
  (k:starEach (e::es) X.env=(false,eval e X.env)::starEach es X.env:=by rfl) (a:(backTo pos (starEach es X.env)).any (·.1)=false:=by rfl):PE X (.Call (.Name x p) (e::es) [] pos) (tCB r t):=by
 intro pins s σ H Q I h;refine wpAny_Call_Name_kw (a2E I j g l ?_ f b);exact PyProof.Rows.callWith_builtin1 (thn (ha pos pins s σ H _ I h) λus s1 ⟨vs,H1,d,i,c⟩=>hc pins s1 σ H1 vs us Q d i c) k a
theorem Q8(hc:D0 X (.type T) r)(j:Gl X x)(g:X.mg x=none)(l:bootBuiltins x=some (.type T))(ha:PA X (e::es) t)(f:x≠"__name__":=by decide)(b:(x==("__debug__" : Str))=false:=by decide)
  (k:starEach (e::es) X.env=(false,eval e X.env)::starEach es X.env:=by rfl) (a:(backTo pos (starEach es X.env)).any (·.1)=false:=by rfl):PE X (.Call (.Name x p) (e::es) [] pos) (tCB r t):=by
 intro pins s σ H Q I h;refine wpAny_Call_Name_kw (a2E I j g l ?_ f b);exact PyProof.Rows.callWith_type1 (thn (ha pos pins s σ H _ I h) λus s1 ⟨vs,H1,d,i,c⟩=>hc pins s1 σ H1 vs us Q d i c) k a
end
end L2
namespace HT
open PySem PyProof.Rows
noncomputable def lexLt:List Int->List Int->Bool
 |[],[]=>false
 |[],_::_=>true
 |_::_,[]=>false
 |x::xs,y::ys=>if x=y then lexLt xs ys else decide (x<y)
theorem lexLt_cons(x y:Int)(xs ys:List Int):lexLt (x::xs) (y::ys)=if x=y then lexLt xs ys else decide (x<y):=rfl
section
open PySem.SeqAt
open PySem.AutoSeq1 (wpAny_loadPart')
open PySem.MeetsSeq PySem.MeetsSeq2 PySem.MeetsSeq3
end
section
variable {prog:Program}{w:World}{A:Around}{E:Value->Shared->Prop}{s:Shared}
theorem cat_tup{t b:Addr}{vs a:List Value}{Q:Value->Shared->Prop}(m:IsTup s.heap t vs.toArray)(hb:IsTup s.heap b a.toArray)(l:vs≠[])
  (h1:a=[]->Q (.ref t) s) (h2:a≠[]->Q (.ref s.heap.objs.size) {s with heap:=s.heap.push {cls:=.type "tuple",data:=.seq (vs++a).toArray}})
  (hsz:vs.length+a.length<=sizeLine):wpAny (model prog w) A (binaryOp .Add (.ref t) (.ref b)) Q E s:=by
 obtain⟨⟨cls,dd,data,sl⟩,i,hc,n,hd⟩:=id m;obtain⟨⟨k,d,j,g⟩,c,h,n2,f⟩:=id hb;simp only at hc hd h f;subst hc hd h f;have e:vs.toArray++a.toArray=(vs++a).toArray:=by simp
 by_cases hw:a=[]
 .exact concat_meets ⟨_,i,rfl⟩ ⟨_,c,rfl⟩ noFill_tuple_add seq_tuple_add PySem.F.slot_tuple_add PySem.F.entry_tuple_add (PySem.F.args_tuple_add_2 _ _)
   (tuple_addW1 t b vs.toArray a.toArray n n2 dd d sl g (by simpa using l) (by simp[hw])) ⟨i,c,h1 hw⟩
 .refine concat_meets ⟨_,i,rfl⟩ ⟨_,c,rfl⟩ noFill_tuple_add seq_tuple_add PySem.F.slot_tuple_add PySem.F.entry_tuple_add (PySem.F.args_tuple_add_2 _ _)
   (tuple_addW2 t b vs.toArray a.toArray n n2 dd d sl g (by simpa using l) (by simpa using hw) (by rw[List.size_toArray,List.size_toArray];exact hsz)) ⟨i,c,?_⟩
  rw[e];exact h2 hw
noncomputable def sIx(n d:Nat):Option Int->Nat
 |none=>d
 |some v=>if v<0 then(v+(n:Int)).toNat else min v.toNat n
theorem sIx_none(n d:Nat):sIx n d none=d:=rfl
theorem sIx_nat(n d k:Nat):sIx n d (some (k:Int))=min k n:=by
 show(if (k:Int)<0 then((k:Int)+(n:Int)).toNat else min (k:Int).toNat n)=min k n;rw[if_neg (by omega),Int.toNat_natCast]
theorem b5m(n d:Nat)(hd:d<=n)(o:Option Int):sIx n d o<=n:=by
 cases o with
 |none=>exact hd
 |some v =>
  show(if v<0 then(v+(n:Int)).toNat else min v.toNat n)<=n;by_cases a:v<0
  .rw[if_pos a];omega
  .rw[if_neg a];exact Nat.min_le_right _ _
theorem a8w(v:Int)(n d:Nat):(if v<0 then max (v+(n:Int)) 0 else min v (n:Int))=((sIx n d (some v):Nat):Int):=by
 show(if v<0 then max (v+(n:Int)) 0 else min v (n:Int))=(((if v<0 then(v+(n:Int)).toNat else min v.toNat n):Nat):Int);by_cases a:v<0
 .simp only[if_pos a];omega
 .simp only[if_neg a];omega
theorem a7v(lo hi:Option Int)(n:Nat):Builtin.Slice.sliceAdjust lo hi 1 (n:Int)=(((sIx n 0 lo:Nat):Int),((sIx n n hi:Nat):Int)):=by
 have h1:¬((1:Int)<0):=by omega
 unfold Builtin.Slice.sliceAdjust;simp only[h1,if_false];refine Prod.ext ?_ ?_
 .cases lo with
  |none=>rfl
  |some v=>exact a8w v n 0
 .cases hi with
  |none=>rfl
  |some v=>exact a8w v n n
theorem a6R(i j:Nat):Builtin.Slice.slicePlaces (i:Int) (j:Int) 1=j-i:=by
 unfold Builtin.Slice.slicePlaces;have h1:(1:Int) > 0:=by omega
 simp only[h1,if_true,Int.ediv_one];split<;>omega
theorem a2j{v:Value}{o:Option Int}{Q:Option Int->Shared->Prop}(p:IsPart v o)(h:Q o s):wpAny (model prog w) A (Builtin.Slice.slicePartIndex v) Q E s:=by
 cases p with
 |none=>exact slicePart_none h
 |int i t=>exact slicePart_int h
theorem Q7{sl:Addr}{c d:Value}{lo hi:Option Int}{n:Nat}{Q:Int×Int×Nat->Shared->Prop}(hs:s.heap.IsSliceOf sl c d .none)(pl:IsPart c lo)(f:IsPart d hi)
  (h:Q (((sIx n 0 lo:Nat):Int),1,sIx n n hi-sIx n 0 lo) s):wpAny (model prog w) A (Builtin.Slice.sliceApplied (.ref sl) (pure (n:Int))) Q E s:=by
 obtain⟨os,a,e,b⟩:=id hs;unfold Builtin.Slice.sliceApplied Builtin.Slice.sliceFields;refine wpAny_bind (wpAny_bind (wpAny_field a b (x:=c) rfl (wpAny_bind (wpAny_field a b (x:=d) rfl (wpAny_bind (wpAny_field a b (x:=.none) rfl (wpAny_pure ?_)))))));refine wpAny_bind (slicePart_none ?_);show wpAny _ _ (if ((1:Int)==0)=true then _ else _) _ _ s;rw[if_neg (by decide)];refine wpAny_bind (a2j pl (wpAny_bind (a2j f (wpAny_bind (wpAny_pure ?_)))));show wpAny _ _ (match Builtin.Slice.sliceAdjust lo hi 1 (n:Int)with | (lo,hi)=>pure (lo,(1:Int),Builtin.Slice.slicePlaces lo hi 1)) _ _ s;rw[a7v lo hi n];show wpAny _ _ (pure (((sIx n 0 lo:Nat):Int),(1:Int),Builtin.Slice.slicePlaces ((sIx n 0 lo:Nat):Int) ((sIx n n hi:Nat):Int) 1)) _ _ s;rw[a6R];exact wpAny_pure h
theorem b1c(xs:Array Value)(i k:Nat):((List.range k).filterMap λ(m:Nat)=>xs[((i:Int)+(m:Int)*1).toNat]?).toArray=((xs.toList.drop i).take k).toArray:=by
 have e:(λ(m:Nat)=>xs[((i:Int)+(m:Int)*1).toNat]?)=λm=>xs[i+m]?:=by
  funext m;have:((i:Int)+(m:Int)*1).toNat=i+m:=by omega
  rw[this]
 rw[e];have:=pick_run xs i k;rw[List.filterMap_map]at this;have a:((λx=>xs[x]?) ∘ λx=>i+x)=λm=>xs[i+m]?:=rfl;rw[a]at this;rw[this]
theorem getItem_tuple_cut{t sl:Addr}{items:Array Value}{g i:Value}{lo hi:Option Int}{Q:Value->Shared->Prop}(b:IsTup s.heap t items)(hs:s.heap.IsSliceOf sl g i .none)(pl:IsPart g lo)(k:IsPart i hi)
  (hw:¬(sIx items.size 0 lo=0/\sIx items.size items.size hi=items.size))
  (h:Q (.ref s.heap.objs.size) {s with heap:=s.heap.push {cls:=.type "tuple",data:=.seq ((items.toList.drop (sIx items.size 0 lo)).take (sIx items.size items.size hi-sIx items.size 0 lo)).toArray}})
  (hsz:items.size<=sizeLine):wpAny (model prog w) A (getItem (.ref t) (.ref sl)) Q E s:=by
 have a:sizeOk (.seq ((items.toList.drop (sIx items.size 0 lo)).take (sIx items.size items.size hi-sIx items.size 0 lo)).toArray):=by
  show((items.toList.drop (sIx items.size 0 lo)).take (sIx items.size items.size hi-sIx items.size 0 lo)).toArray.size<=sizeLine;rw[List.size_toArray,List.length_take,List.length_drop,Array.length_toList];omega
 have o:sIx items.size items.size hi<=items.size:=b5m _ _ (Nat.le_refl _) hi;obtain⟨os,d,e,j⟩:=id hs;have f:s.TypeIs (.ref sl) "slice":=⟨os,d,e⟩;unfold getItem
 try with_reducible refine wpAny_holding ?_
 first|refine wpAny_bind (wpAny_pure ?_)|skip
 refine wpAny_bind (wpAny_sequenceKey b.typeIs (by decide) ?_);refine wpAny_bind (wpAny_callSpecial?_slot (name:=Str.ofString "__getitem__") b.typeIs PyProof.Rows.slot_tuple_getitem
  (wpAny_call_entry PyProof.Rows.slot_tuple_getitem b.typeIs entry_tuple_getitem ?_ (args_tuple_getitem _ _)))
 show wpAny _ _ (Builtin.Tuple.tupleItemsOf (.ref t)>>=_) _ _ s;refine wpAny_bind (tupleItemsOf_ b ?_);refine wpAny_bind (wpAny_typeOf f ?_);rw[if_pos (by decide)];refine wpAny_bind (Q7 hs pl k ?_);have c:¬((((sIx items.size 0 lo:Nat):Int)==0 && (1:Int)==1 && (sIx items.size items.size hi-sIx items.size 0 lo)==items.size)=true):=by
  intro q;rw[Bool.and_eq_true,Bool.and_eq_true]at q;have l:((sIx items.size 0 lo:Nat):Int)=0:=eq_of_beq q.1.1;have n:sIx items.size items.size hi-sIx items.size 0 lo=items.size:=eq_of_beq q.2;exact hw ⟨by omega,by omega⟩
 show wpAny _ _ (if (((sIx items.size 0 lo:Nat):Int)==0 && (1:Int)==1 && (sIx items.size items.size hi-sIx items.size 0 lo)==items.size)=true then _ else _) _ _ s;rw[if_neg c,b1c]
 first
  |exact wpAny_bind (m:=Builtin.Tuple.tupleExact _) (wpAny_newObj_type (wpAny_pure ⟨_,rfl,wpAny_pure h⟩) a)
  |exact wpAny_bind (m:=Builtin.Tuple.tupleExact _) (wpAny_newObj_type (wpAny_bind (wpAny_pure (wpAny_pure ⟨_,rfl,wpAny_pure h⟩))) a)
  |exact wpAny_bind (wpAny_bind (m:=Builtin.Tuple.tupleExact _) (wpAny_newObj_type (wpAny_pure (wpAny_pure ⟨_,rfl,wpAny_pure h⟩)) a))
  |exact wpAny_bind (wpAny_bind (m:=Builtin.Tuple.tupleExact _) (wpAny_newObj_type (wpAny_pure ⟨_,rfl,wpAny_pure h⟩) a))
end
end HT
namespace L2
open PySem PySem.Spec PyProof.Rows
abbrev TO:=St->Hp->(Option Int->Hp->Prop)->Prop
def PO(X:Cx)(e:Option Expr)(t:TO):Prop :=
 ∀(pins:List (Addr×Obj)) (s:Shared) (σ:St) (H:Hp) (Q:Option Int->Hp->Prop),Inv X pins σ H s->t σ H Q ->
  wpAny (model X.prog X.w) X.A (evalPart e X.env) (λu s'=>∃o H',Inv X pins σ H' s'/\IsPart u o/\Q o H') X.xe s
def G4:TO:=λ_ H Q=>Q none H
def a1l(t:TE):TO:=λσ H Q=>t σ H λx H1=>∃i,x=.int i/\Q (some i) H1
theorem a7g{ns:List Int}:∀{us:List Value},Vals (ns.map V.int) us->IntsAre us ns:=by
 induction ns with
 |nil=>intro us r;rw[List.map_nil]at r;cases r;exact .nil
 |cons n ns ih =>
  intro us r;rw[List.map_cons]at r;cases r with
  |cons r1 r2 =>
   obtain⟨t,e⟩:=r1;subst e;exact .cons n t (ih r2)
section
variable {X:Cx}{e:Expr}{te:TE}{lo hi:Option Expr}{tl th:TO}{pos p2:Pos}
theorem b3p:PO X none G4:=by
 intro pins s σ H Q I h;rw[evalPart_none];exact wpAny_pure ⟨none,H,I,.none,h⟩
theorem b3o(h:PE X e te):PO X (some e) (a1l te):=by
 intro pins s σ H Q I hw;rw[evalPart_some];refine thn (h pins s σ H _ I hw) λu s1 ⟨x,H1,a,c,b⟩=>?_;obtain⟨i,rfl,q⟩:=b;obtain⟨t,rfl⟩:=c;exact⟨some i,H1,a,.int i t,q⟩
def SlR(X:Cx)(r:V->Option Int->Option Int->Hp->VK->Prop):Prop :=
 ∀(pins:List (Addr×Obj)) (s:Shared) (σ:St) (H:Hp) (x:V) (v vl vu:Value) (lo hi:Option Int) (sl:Addr) (Q:VK),Inv X pins σ H s->RelV x v->s.heap.IsSliceOf sl vl vu .none->IsPart vl lo->IsPart vu hi->r x lo hi H Q ->
  ∃T id,typeLookup (.type T) "__getitem__"=pure (some (.builtin id))/\s.TypeIs v T/\wpAny (model X.prog X.w) X.A (getItem v (.ref sl)) (EP X pins σ Q) X.xe s
def tSl(r:V->Option Int->Option Int->Hp->VK->Prop)(te:TE)(tl th:TO):TE:=λσ H Q=>te σ H λx H1=>tl σ H1 λl H2=>th σ H2 λu H3=>r x l u H3 Q
theorem a2u{r:V->Option Int->Option Int->Hp->VK->Prop}(g:SlR X r)(E:PE X e te)(hl:PO X lo tl)(B:PO X hi th):PE X (.Subscript e (.Slice lo hi none p2) pos) (tSl r te tl th):=by
 intro pins s σ H Q I h;refine Subscript_ (thn (E pins s σ H _ I h) λv s1 ⟨x,H1,n,C,y⟩=>?_);refine wpAny_Slice (thn (hl pins s1 σ H1 _ n y) λc s2 ⟨l,H2,j,pl,t⟩=>thn (B pins s2 σ H2 _ j t) λd a ⟨u,f,i,p,k⟩=>?_);rw[evalPart_none];refine wpAny_pure ?_;have z:Inv X pins σ f {a with heap:=a.heap.push {cls:=.type "slice",data:=.fields #[c,d,.none]}}:=i.kept (t':=a.toks) λb F q=>Heap.get?_push_of_some _ q;obtain⟨T,id,D,o,m⟩:=g pins {a with heap:=a.heap.push {cls:=.type "slice",data:=.fields #[c,d,.none]}} σ f x v c d l u a.heap.objs.size Q z C (Heap.IsSliceOf.new ..) pl p k;show wpAny (model X.prog X.w) X.A (subscriptTail e (.Slice lo hi none p2) v (.ref a.heap.objs.size)) (EP X pins σ Q) X.xe {a with heap:=a.heap.push {cls:=.type "slice",data:=.fields #[c,d,.none]}};exact tail_any (ops:=[.ref a.heap.objs.size,v]) o D m (by with_unfolding_all rfl)
noncomputable def L4(xs:List V)(lo hi:Option Int):List V:=(xs.drop (HT.sIx xs.length 0 lo)).take (HT.sIx xs.length xs.length hi-HT.sIx xs.length 0 lo)
theorem W6(xs:List V)(lo hi:Option Int):(L4 xs lo hi).length<=xs.length:=by
 unfold L4;rw[List.length_take,List.length_drop];omega
def a6N(K:PySem.W.Frag):V->Option Int->Option Int->Hp->VK->Prop:=λx lo hi H Q=>∃a xs,x=.ref a/\SqT K H a xs /\
 ¬(HT.sIx xs.length 0 lo=0/\HT.sIx xs.length xs.length hi=xs.length)/\∀p,H p=none->Q (.ref p) (upd H p (.tup (L4 xs lo hi)))
theorem b0y:SlR X (a6N X.K):=by
 intro pins s σ H x v j l lo hi sl Q I g hs pl i h;obtain⟨a,xs,rfl,f,hw,q⟩:=h;cases g;obtain⟨its,r,e,d⟩:=I.tuple f;have c:its.toArray.size=xs.length:=by rw[List.size_toArray];exact r.length.symm
 refine⟨"tuple",_,PyProof.Rows.slot_tuple_getitem.lookup,e.typeIs,?_⟩;refine HT.getItem_tuple_cut e hs pl i (by rw[c];exact hw) ?_ (by rw[c];exact d);rw[c];refine⟨.ref s.heap.objs.size,_,I.laid (t':=s.toks) (o:=.tup (L4 xs lo hi)) (λb k q=>Heap.get?_push_of_some _ q) (Nat.le_refl _) ?_,rfl,q _ (I.hok.fresh (Nat.le_refl _))⟩;exact⟨Nat.le_trans (W6 xs lo hi) d,_,(r.drop (HT.sIx xs.length 0 lo)).take (HT.sIx xs.length xs.length hi-HT.sIx xs.length 0 lo),IsTup.new _ _⟩
def b7h(K:PySem.W.Frag):R2:=λx y H Q=>∃a b xs ys,x=.ref a/\y=.ref b/\SqT K H a xs/\SqT K H b ys/\xs≠[]/\xs.length+ys.length<=sizeLine /\
 (ys=[]->Q (.ref a) H)/\(ys≠[]->∀p,H p=none->Q (.ref p) (upd H p (.tup (xs++ys))))
theorem Vals.nil_iff{xs:List V}{us:List Value}(r:Vals xs us):us=[]↔xs=[]:=by
 cases r with
 |nil=>simp
 |cons _ _=>simp
theorem b3I:OpR X (binaryOp .Add) (b7h X.K):=by
 intro pins s σ H x y v u Q I k l h;obtain⟨a,b,xs,ys,rfl,rfl,ha,hb,g,e,j,i⟩:=h;cases k;cases l;obtain⟨its,d,p1,_⟩:=I.tuple ha;obtain⟨f,c,p2,_⟩:=I.tuple hb;refine HT.cat_tup p1 p2 (λz=>g (d.nil_iff.mp z)) (λz=>⟨.ref a,H,I,rfl,j (c.nil_iff.mp z)⟩) (λz=>?_) (by rw[<-d.length,<-c.length];exact e);refine⟨.ref s.heap.objs.size,_,I.laid (t':=s.toks) (o:=.tup (xs++ys)) (λb m q=>Heap.get?_push_of_some _ q) (Nat.le_refl _) ?_,rfl,i (λw=>z (c.nil_iff.mpr w)) _ (I.hok.fresh (Nat.le_refl _))⟩;exact⟨by rw[List.length_append];exact e,_,d.append c,IsTup.new _ _⟩
end
noncomputable def ixN(n:Nat)(i:Int):Option Nat:=if 0<=i then(if i<n then some i.toNat else none)else if -(n:Int)<=i then some (i+n).toNat else none
noncomputable def atI{α:Type}(xs:List α)(i:Int):Option α:=(ixN xs.length i).bind λj=>xs[j]?
theorem a8m{n:Nat}{i:Int}{j:Nat}(h:ixN n i=some j):seqIndex? i n=some j/\j<n /\ -(n:Int)<=i/\i<n:=by
 unfold ixN at h;by_cases h0:0<=i
 .rw[if_pos h0]at h;by_cases h1:i<n
  .rw[if_pos h1]at h;have e:i.toNat=j:=Option.some.inj h;exact⟨by rw[seqIndex_of h0 h1,e],by omega,by omega,h1⟩
  .rw[if_neg h1]at h;cases h
 .rw[if_neg h0]at h;by_cases h1 : -(n:Int)<=i
  .rw[if_pos h1]at h;have e:(i+n).toNat=j:=Option.some.inj h;exact⟨by rw[seqIndex_neg (by omega) h1,e],by omega,h1,by omega⟩
  .rw[if_neg h1]at h;cases h
theorem a4Y{α:Type}{xs:List α}{i:Int}{v:α}(h:atI xs i=some v):∃j,seqIndex? i xs.length=some j/\xs[j]?=some v/\j<xs.length /\ -(xs.length:Int)<=i/\i<xs.length:=by
 unfold atI at h;cases e:ixN xs.length i with
 |none=>rw[e]at h;cases h
 |some j =>
  rw[e]at h;obtain⟨h1,h2,b,a⟩:=a8m e;exact⟨j,h1,h,h2,b,a⟩
theorem Z2{α:Type}{xs:List α}{j:Nat}{v:α}(h:xs[j]?=some v):atI xs (j:Int)=some v:=by
 have a:j<xs.length:=(List.getElem?_eq_some_iff.mp h).1;have e:ixN xs.length (j:Int)=some j:=by
  unfold ixN;rw[if_pos (by omega),if_pos (by omega)];simp
 unfold atI;rw[e];exact h
def a4Z(b:Expr):Prop:=∀o i,subscripted b false o i=operate [o,i] (getItem o i)
def IxR(X:Cx)(r:R2):Prop :=
 ∀(value slice:Expr) (pins:List (Addr×Obj)) (s:Shared) (σ:St) (H:Hp) (x y:V) (v u:Value) (Q:VK),Inv X pins σ H s->RelV x v->RelV y u->r x y H Q ->
  subscripted slice false v u=operate [v,u] (getItem v u)->wpAny (model X.prog X.w) X.A (subscriptTail value slice v u) (EP X pins σ Q) X.xe s
def MtR(X:Cx)(id:String)(r:V->List V->Hp->VK->Prop):Prop :=
 ∀(pins:List (Addr×Obj)) (s:Shared) (σ:St) (H:Hp) (x:V) (xs:List V) (v:Value) (us:List Value) (Q:VK),Inv X pins σ H s->RelV x v->Vals xs us->r x xs H Q ->
  wpAny (model X.prog X.w) X.A (call (.builtin id) (v::us)) (EP X pins σ Q) X.xe s
section
variable {X:Cx}{a b:Expr}{ta tb:TE}{pos:Pos}
theorem b4O{r:R2}(c:IxR X r)(ha:PE X a ta)(hb:PE X b tb)(hs:a4Z b):PE X (.Subscript a b pos) (tOp r ta tb):=by
 intro pins s σ H Q I h;exact Subscript_ (b6H ha hb I h λv u s2 x y H2 d e f q=>c a b pins s2 σ H2 x y v u Q d e f q (hs _ _))
def a6O(K:PySem.W.Frag):R2:=λx y H Q=>∃p xs i v,x=.ref p/\y=.int i/\SqL K H p xs/\atI xs i=some v/\Q v H
def b5q(K:PySem.W.Frag):R2:=λx y H Q=>∃p xs i v,x=.ref p/\y=.int i/\SqT K H p xs/\atI xs i=some v/\Q v H
theorem b4e:IxR X (a6O X.K):=by
 intro value b pins s σ H x y v u Q I d g h hs;obtain⟨p,xs,i,z,rfl,rfl,e,l,q⟩:=h;cases d;obtain⟨t,rfl⟩:=g;obtain⟨its,r,pl,m⟩:=I.list e;obtain⟨j,h1,h2,n,f,k⟩:=a4Y l;obtain⟨w,c,a⟩:=r.get h2;have hl:=r.length;have o:=a0S;have fin:EP X pins σ Q w s:=⟨z,H,I,a,q⟩;by_cases h0:0<=i
 .have hj:i.toNat=j:=by
   rw[seqIndex_of h0 k]at h1;exact Option.some.inj h1
  exact item_listR pl.isList h0 (by omega) (by rw[hj];simpa using c) fin hs
 .have hj:(i+(its.toArray.size:Int)).toNat=j:=by
   rw[seqIndex_neg (by omega) f]at h1;rw[List.size_toArray,<-hl];exact Option.some.inj h1
  exact subscriptTail_builtinR (x:=w) pl.isList.typeIs slot_list_getitem.lookup
   (wpAny_getItem_list_neg (Q:=λr s'=>r=w/\EP X pins σ Q r s') pl.isList (by omega) (by rw[List.size_toArray]<;>omega) (by omega) (by rw[hj];simpa using c) ⟨rfl,fin⟩) hs
theorem b6v:IxR X (b5q X.K):=by
 intro value b pins s σ H x y v u Q I c f h hs;obtain⟨p,xs,i,z,rfl,rfl,d,g,q⟩:=h;cases c;obtain⟨t,rfl⟩:=f;obtain⟨its,r,pl,l⟩:=I.tuple d;obtain⟨j,h1,h2,m,k,o⟩:=a4Y g;obtain⟨w,e,a⟩:=r.get h2;have hl:=r.length;have n:=a0S;have fin:EP X pins σ Q w s:=⟨z,H,I,a,q⟩;exact subscriptTail_builtinR (x:=w) pl.typeIs slot_tuple_getitem.lookup
  (getItem_tuple (j:=j) (Q:=λr s'=>r=w/\EP X pins σ Q r s') pl (by omega) (by omega) (by rw[List.size_toArray,<-hl];exact h1) (by simpa using e) ⟨rfl,fin⟩) hs
theorem a6Z(its:List Value)(n j:Nat)(u:Value):Obj.mapSeq (·.setIfInBounds j u) {cls:=.type "list",data:=.seq its.toArray n}={cls:=.type "list",data:=.seq (its.set j u).toArray n}:=by
 simp[Obj.mapSeq]
theorem Inv.lst{pins:List (Addr×Obj)}{σ:St}{H:Hp}{s:Shared}{p:Addr}{xs:List V}(I:Inv X pins σ H s)(h:H p=some (.lst xs)) :
  ∃(its:List Value) (n:Nat),Vals xs its/\s.heap.get? p=some {cls:=.type "list",data:=.seq its.toArray n}/\xs.length<=sizeLine:=by
 obtain⟨z,its,n,r,e⟩:=I.hok p _ h;exact⟨its,n,r,e,z⟩
theorem Inv.lstUpd{pins:List (Addr×Obj)}{σ:St}{H:Hp}{s:Shared}{p:Addr}{xs ys:List V}{its its':List Value}{n a:Nat}{f:Obj->Obj}(I:Inv X pins σ H s)(h:H p=some (.lst xs))
  (d:s.heap.get? p=some {cls:=.type "list",data:=.seq its.toArray n}) (hf:f {cls:=.type "list",data:=.seq its.toArray n}={cls:=.type "list",data:=.seq its'.toArray a}) (r:Vals ys its') (c:ys.length<=sizeLine) (t:Nat) :
  Inv X pins σ (upd H p (.lst ys)) {s with heap:=s.heap.update p f,toks:=t}:=by
 have e:(s.heap.update p f).get? p=some {cls:=.type "list",data:=.seq its'.toArray a}:=by
  rw[Heap.get?_update_self f d (by rw[hf]<;>rfl),hf]
 refine I.write (x:=p) (e:=p) (by rw[h];trivial) (.inl rfl) (λb u hb q=>(Heap.get?_update_other _ _ (Ne.symm hb)).trans q) ⟨_,e⟩ ?_;exact⟨c,its',a,r,e⟩
def b0Q:V->V->V->Hp->(Hp->Prop)->Prop:=λo i v H Q=>∃p xs k j,o=.ref p/\i=.int k/\H p=some (.lst xs)/\ixN xs.length k=some j/\Q (upd H p (.lst (xs.set j v)))
theorem a5y:b6S X b0Q:=by
 intro pins s σ H o i v x w u Q I l ri e h;obtain⟨p,xs,k,j,rfl,rfl,hp,g,q⟩:=h;cases l;obtain⟨t,rfl⟩:=ri;obtain⟨its,n,r,a,f⟩:=I.lst hp;obtain⟨h1,h2,c,d⟩:=a8m g;have hl:=r.length;have m:=a0S;have b:Inv X pins σ (upd H p (.lst (xs.set j v))) {s with heap:=s.heap.update p (Obj.mapSeq (·.setIfInBounds j u))} :=
  I.lstUpd hp a (a6Z its n j u) (r.set e j) (by rw[List.length_set];exact f) s.toks
 by_cases h0:0<=k
 .have hk:k.toNat=j:=by
   rw[seqIndex_of h0 d]at h1;exact Option.some.inj h1
  exact PySem.W.ki_setAt a h0 (by omega) (by rw[List.size_toArray,<-hl];exact d) (by rw[hk];exact⟨_,b,q⟩)
 .have hk:(k+(its.toArray.size:Int)).toNat=j:=by
   rw[seqIndex_neg (by omega) c]at h1;rw[List.size_toArray,<-hl];exact Option.some.inj h1
  exact PySem.W.ki_setBack a (by omega) (by rw[List.size_toArray,<-hl];exact c) (by omega) (by rw[hk];exact⟨_,b,q⟩)
theorem a4p(lo hi:Option Int)(n:Nat):(sliceBounds lo hi none n).1=((HT.sIx n 0 lo:Nat):Int)/\(sliceBounds lo hi none n).2.1=((HT.sIx n n hi:Nat):Int)/\(sliceBounds lo hi none n).2.2=1:=by
 refine⟨?_,?_,rfl⟩
 .cases lo with
  |none=>simp[sliceBounds,HT.sIx]
  |some i =>
   simp only[sliceBounds,HT.sIx,Option.getD_none,show(1:Int) > 0 by decide,if_true];by_cases h:i<0
   .simp only[h,if_true]<;>omega
   .simp only[h,if_false]<;>omega
 .cases hi with
  |none=>simp[sliceBounds,HT.sIx]
  |some i =>
   simp only[sliceBounds,HT.sIx,Option.getD_none,show(1:Int) > 0 by decide,if_true];by_cases h:i<0
   .simp only[h,if_true]<;>omega
   .simp only[h,if_false]<;>omega
theorem a3g(its:List Value)(lo hi:Option Int):slicePick its.toArray lo hi none=((its.drop (HT.sIx its.length 0 lo)).take (HT.sIx its.length its.length hi-HT.sIx its.length 0 lo)).toArray:=by
 obtain⟨h1,h2,a⟩:=a4p lo hi its.toArray.size;unfold slicePick;rw[h1,h2,a];simp only[sliceRange_one,pick_run,List.size_toArray]<;>rfl
def b5p(K:PySem.W.Frag):V->Option Int->Option Int->Hp->VK->Prop:=λx lo hi H Q=>∃a xs,x=.ref a/\SqL K H a xs/\∀p,H p=none->Q (.ref p) (upd H p (.lst (L4 xs lo hi)))
theorem b2R:SlR X (b5p X.K):=by
 intro pins s σ H x v j l lo hi sl Q I f hs pl i h;obtain⟨a,xs,rfl,e,q⟩:=h;cases f;obtain⟨its,r,d,g⟩:=I.list e;have c:=r.length;refine⟨"list",_,slot_list_getitem.lookup,d.isList.typeIs,?_⟩;refine wpAny_getItem_list_slice d.isList hs pl i .none (by simp) ?_ (by rw[List.size_toArray]<;>omega);rw[a3g,<-c];refine⟨.ref s.heap.objs.size,_,I.laid (t':=s.toks) (o:=.lst (L4 xs lo hi)) (λb k q=>Heap.get?_push_of_some _ q) (Nat.le_refl _) ?_,rfl,q _ (I.hok.fresh (Nat.le_refl _))⟩;exact⟨Nat.le_trans (W6 xs lo hi) g,_,0,(r.drop (HT.sIx xs.length 0 lo)).take (HT.sIx xs.length xs.length hi-HT.sIx xs.length 0 lo),Heap.get?_push_size _ rfl⟩
noncomputable def a6d:V->Bool
 |.non=>true
 |.bl _=>true
 |.int _=>true
 |.str _=>true
 |_=>false
noncomputable def eqV:V->V->Bool
 |.non,.non=>true
 |.bl a,.bl b=>a==b
 |.bl a,.int b=>(if a then 1 else 0)==b
 |.int a,.bl b=>a==(if b then 1 else 0)
 |.int a,.int b=>a==b
 |.str a,.str b=>a==b
 |_,_=>false
theorem b6C{A:Around}{s:Shared}{y x:V}{u v:Value}(d:RelV y u)(c:RelV x v)(fy:a6d y=true)(fx:a6d x=true):SeqAt.EqAt A s u v (eqV y x):=by
 cases y with
 |non =>
  cases d;cases x with
  |non=>cases c;exact SeqAt.EqAt.same _
  |bl b=>cases c;exact SeqAt.EqAt.none_bool b
  |int b=>obtain⟨t,rfl⟩:=c;exact SeqAt.EqAt.none_int b t
  |str b=>obtain⟨t,rfl⟩:=c;exact SeqAt.EqAt.none_str b t
  |_=>exact absurd (show false=true from fx) Bool.false_ne_true
 |bl a =>
  cases d;cases x with
  |non=>cases c;exact SeqAt.EqAt.bool_none a
  |bl b=>cases c;exact SeqAt.EqAt.bool_bool a b
  |int b=>obtain⟨t,rfl⟩:=c;exact SeqAt.EqAt.bool_int a b t
  |str b=>obtain⟨t,rfl⟩:=c;exact SeqAt.EqAt.bool_str a b t
  |_=>exact absurd (show false=true from fx) Bool.false_ne_true
 |int a =>
  obtain⟨t',rfl⟩:=d;cases x with
  |non=>cases c;exact SeqAt.EqAt.int_none a t'
  |bl b=>cases c;exact SeqAt.EqAt.int_bool a t' b
  |int b=>obtain⟨t,rfl⟩:=c;exact SeqAt.EqAt.int_int a t' b t
  |str b=>obtain⟨t,rfl⟩:=c;exact SeqAt.EqAt.int_str a t' b t
  |_=>exact absurd (show false=true from fx) Bool.false_ne_true
 |str a =>
  obtain⟨t',rfl⟩:=d;cases x with
  |non=>cases c;exact SeqAt.EqAt.str_none a t'
  |bl b=>cases c;exact SeqAt.EqAt.str_bool a t' b
  |int b=>obtain⟨t,rfl⟩:=c;exact SeqAt.EqAt.str_int a t' b t
  |str b=>obtain⟨t,rfl⟩:=c;exact SeqAt.EqAt.str_str a t' b t
  |_=>exact absurd (show false=true from fx) Bool.false_ne_true
 |_=>exact absurd (show false=true from fy) Bool.false_ne_true
theorem a4W:D0 X (.builtin "len") (λxs H Q=>∃p ys,xs=[.ref p]/\(SqL X.K H p ys∨SqT X.K H p ys)/\Q (.int ys.length) H):=by
 intro pins s σ H xs us Q I r h;obtain⟨p,ys,rfl,b,q⟩:=h;obtain⟨u,rfl,c⟩:=a5i r;cases c;have d:=a0S;rcases b with b|b
 .obtain⟨its,r',pl,hz⟩:=I.list b;have a:=r'.length;exact Calls.call_len_list pl.isList (by simp only[List.size_toArray]<;>omega) ⟨.int ys.length,H,I.tok _,⟨s.toks+1,by rw[List.size_toArray,a]⟩,q⟩
 .obtain⟨its,r',pl,hz⟩:=I.tuple b;have a:=r'.length;exact len_tuple pl (by simp only[List.size_toArray]<;>omega) ⟨.int ys.length,H,I.tok _,⟨s.toks+1,by rw[List.size_toArray,a]⟩,q⟩
theorem a4V:D0 X (.type "list") (λxs H Q=>∃p ys,xs=[.ref p]/\(SqL X.K H p ys∨SqT X.K H p ys)/\∀l,H l=none->Q (.ref l) (upd H l (.lst ys))):=by
 intro pins s σ H xs us Q I r h;obtain⟨p,ys,rfl,d,q⟩:=h;obtain⟨u,rfl,j⟩:=a5i r;cases j;have fin:∀(its:List Value),Vals ys its->ys.length<=sizeLine->∀(h':Heap) (c:Nat),(∀b o',s.heap.get? b=some o'->h'.get? b=some o') ->
   h'.get? s.heap.objs.size=some {cls:=.type "list",dict:=none,data:=.seq its.toArray c,slots:=#[]}->EP X pins σ Q (.ref s.heap.objs.size) {s with heap:=h'}:=λits a f h' c kp e =>
  ⟨.ref s.heap.objs.size,_,I.laid (t':=s.toks) kp (Nat.le_refl _) (show ObjOk X.prog X.w _ h' _ (.lst ys)from⟨f,its,c,a,e⟩),rfl,q _ (I.hok.fresh (Nat.le_refl _))⟩
 rcases d with d|d
 .obtain⟨its,a,pl,f⟩:=I.list d;have g:=a.length;obtain⟨o,i,hc,n,hd⟩:=pl.isList;exact call_list_seq p (.inl rfl) i hc hd (λh' c kp e=>fin its a f h' c kp e) (by simp only[List.size_toArray]<;>omega)
 .obtain⟨its,a,pl,f⟩:=I.tuple d;have g:=a.length;obtain⟨o,i,hc,n,hd⟩:=pl;exact call_list_seq p (.inr rfl) i hc hd (λh' c kp e=>fin its a f h' c kp e) (by simp only[List.size_toArray]<;>omega)
theorem a3o:D0 X (.type "tuple") (λxs H Q=>∃p ys,xs=[.ref p]/\((SqL X.K H p ys/\∀l,H l=none->Q (.ref l) (upd H l (.tup ys)))∨(SqT X.K H p ys/\Q (.ref p) H))):=by
 intro pins s σ H xs us Q I r h;obtain⟨p,ys,rfl,h⟩:=h;obtain⟨u,rfl,f⟩:=a5i r;cases f;rcases h with⟨a,q⟩|⟨a,q⟩
 .obtain⟨its,r',pl,hz⟩:=I.list a;have d:=r'.length;refine call_tuple_list pl.isList (λh' kp=>?_) (by simp only[List.size_toArray]<;>omega);have c:Inv X pins σ H {s with heap:=h'}:=I.kept (t':=s.toks) kp;have g:Inv X pins σ (upd H h'.objs.size (.tup ys)) {s with heap:=h'.push {cls:=.type "tuple",data:=.seq its.toArray}} :=
   c.laid (t':=s.toks) (λb o e=>Heap.get?_push_of_some _ e) (Nat.le_refl _) (show ObjOk X.prog X.w _ _ _ (.tup ys)from⟨hz,its,r',IsTup.new _ _⟩)
  exact⟨.ref h'.objs.size,_,g,rfl,q _ (c.hok.fresh (Nat.le_refl _))⟩
 .obtain⟨its,r',pl,hz⟩:=I.tuple a;exact call_tuple_same pl ⟨.ref p,H,I,rfl,q⟩
def tyV(K:PySem.W.Frag)(T:String)(x:V)(H:Hp):Prop:=match x with
 |.str _=>T="str"
 |.int _=>T="int"
 |.ref p=>(T="list" /\ ∃xs,SqL K H p xs)∨(T="tuple" /\ ∃o,K.lookup p=some o/\o.cls=.type "tuple"/\o.dict=none) ∨
   (T="dict"/\((∃kvs,H p=some (.dK kvs))∨∃kvs,H p=some (.dT kvs)))∨(T="set" /\ ∃S n,H p=some (.set S n))
 |_=>False
theorem b5g{pins:List (Addr×Obj)}{σ:St}{H:Hp}{s:Shared}{T:String}{x:V}{v:Value}(I:Inv X pins σ H s)(r:RelV x v)(ty:tyV X.K T x H) :
  s.TypeIs v T/\∀a,v=.ref a->∃f,s.heap.get? a=some f/\f.dict=none:=by
 cases x with
 |str z =>
  obtain⟨t,rfl⟩:=r;cases(show T="str" from ty);exact⟨typeIs_str s z t,λ_ e=>nomatch e⟩
 |int i =>
  obtain⟨t,rfl⟩:=r;cases(show T="int" from ty);exact⟨typeIs_int s i t,λ_ e=>nomatch e⟩
 |ref p =>
  cases r;rcases ty with⟨rfl,xs,g⟩|⟨rfl,o,b,hc,hd⟩|⟨rfl,b⟩|⟨rfl,S,n,b⟩
  .obtain⟨its,_,pl,_⟩:=I.list g;refine⟨pl.isList.typeIs,λa e=>?_⟩;cases e;obtain⟨o,n,e,c,hd,_⟩:=pl;exact⟨o,e,hd⟩
  .refine⟨⟨o,I.kIn p o b,hc⟩,λa e=>?_⟩;cases e;exact⟨o,I.kIn _ o b,hd⟩
  .have z:∃o,s.heap.get? p=some o/\o.ExactDict:=by
    rcases b with⟨kvs,b⟩|⟨kvs,b⟩
    .obtain⟨_,_,_,_,o,_,_,e,ex,_⟩:=I.hok p _ b;exact⟨o,e,ex⟩
    .obtain⟨_,_,_,_,o,_,_,e,ex,_⟩:=I.hok p _ b;exact⟨o,e,ex⟩
   obtain⟨o,e,ex⟩:=z;refine⟨⟨o,e,ex.1⟩,λa d=>?_⟩;cases d;exact⟨o,e,ex.2.1⟩
  .obtain⟨o,_,_,_,e,ex,_⟩:=I.hok p _ b;refine⟨⟨o,e,ex.1⟩,λa d=>?_⟩;cases d;exact⟨o,e,ex.2.1⟩
 |_=>exact False.elim ty
def tBM(K:PySem.W.Frag)(T:String)(r:V->List V->Hp->VK->Prop)(to:TE)(t:TA):TE:=λσ H Q=>to σ H λx H1=>tyV K T x H1/\t σ H1 λxs H2=>r x xs H2 Q
variable {o e:Expr}{es:List Expr}{to:TE}{t:TA}{name:Str}{apos cpos:Pos}{T id:String}{r:V->List V->Hp->VK->Prop}
theorem b7m(m:PlainAttrs T)(slot:Slot T name id)(f:typeOf (.builtin id)=pure (.type "method_descriptor"))(p:MtR X id r)(n:PE X o to)(ha:PA X (e::es) t)
  (c:attributeBase o name X.env (eval o X.env)=eval o X.env:=by rfl)
  (d:((backTo cpos (starEach (e::es) X.env)).all (λx=>!x.1) && (backToKw cpos (keywordEach [] X.env)).all (λx=>x.1.isSome)
   && decide ((e::es).length+([]:List Keyword).length+(if ([]:List Keyword).isEmpty then 0 else 1)<30))=true:=by rfl)
  (b:(apos.endLine==cpos.line)=true:=by rfl) (hs:starEach (e::es) X.env=(false,eval e X.env)::starEach es X.env:=by rfl) (a:(backTo cpos (starEach es X.env)).any (·.1)=false:=by rfl) :
  PE X (.Call (.Attribute o name apos) (e::es) [] cpos) (tBM X.K T r to t):=by
 intro pins s σ H Q I h;refine wpAny_Call_method_late c d b rfl (thn (n pins s σ H _ I h) λv s1 ⟨x,H1,g,i,ty,l⟩=>?_);obtain⟨h1,h2⟩:=b5g g i ty;refine⟨T,id,m,slot,f,h1,h2,?_⟩;have j:=ha cpos pins s1 σ H1 _ g l;rw[hs]at j⊢;refine Calls.callWith_builtin (by show(false || (backTo cpos (starEach es X.env)).any (·.1))=false;rw[a]<;>rfl) (Calls.evalArgs_plain ?_);exact thn j λus s2 ⟨vs,H2,q,u,k⟩=>p pins s2 σ H2 x vs v us Q q i u k
end
def MtM(X:Cx)(id:String)(r:V->List V->Hp->VK->Prop):Prop :=
 ∀(pins:List (Addr×Obj)) (s:Shared) (σ:St) (H:Hp) (x:V) (xs:List V) (v:Value) (us:List Value) (Q:VK),Inv X pins σ H s->RelV x v->Vals xs us->r x xs H Q ->
  wpAny (model X.prog X.w) X.A (call (.builtin id) (v::us)) (EP X pins σ Q) X.xe s
theorem Vals.one{x:V}{us:List Value}(h:Vals [x] us):∃u,us=[u]/\RelV x u:=by
 cases h with
 |cons r q=>cases q;exact⟨_,rfl,r⟩
theorem Vals.two{x y:V}{us:List Value}(h:Vals [x,y] us):∃u v,us=[u,v]/\RelV x u/\RelV y v:=by
 cases h with
 |cons r h=>obtain⟨v,rfl,q⟩:=Vals.one (x:=y) h;exact⟨_,_,rfl,r,q⟩
theorem Vals.eraseIdx:∀{xs:List V}{us:List Value}(i:Nat),Vals xs us->Vals (xs.eraseIdx i) (us.eraseIdx i)
 |_,_,_,.nil=>.nil
 |_,_,0,.cons _ t=>t
 |_,_,i+1,.cons r t=>.cons r (Vals.eraseIdx i t)
theorem Vals.reverse{xs:List V}{us:List Value}(h:Vals xs us):Vals xs.reverse us.reverse:=by
 induction h with
 |nil=>exact .nil
 |cons r t ih=>rw[List.reverse_cons,List.reverse_cons];exact Vals.append ih (.cons r .nil)
theorem Vals.rep{xs:List V}{us:List Value}(h:Vals xs us):∀k:Nat,Vals (List.replicate k xs).flatten (List.replicate k us).flatten
 |0=>.nil
 |k+1=>by
  rw[List.replicate_succ,List.replicate_succ,List.flatten_cons,List.flatten_cons];exact Vals.append h (Vals.rep h k)
theorem a3J{α:Type}:∀(l:List α) (i:Nat),(l.eraseIdx i).length<=l.length
 |[],_=>Nat.le_refl _
 |_::_,0=>Nat.le_succ _
 |_::r,i+1=>Nat.succ_le_succ (a3J r i)
section
variable {X:Cx}{pins:List (Addr×Obj)}{σ:St}{H:Hp}{s:Shared}{l b:Addr}{xs ys zs:List V}
theorem Inv.lset{its its':List Value}{n:Nat}{f:Array Value->Array Value}{t':Nat}(I:Inv X pins σ H s)(d:H l=some (.lst xs))
  (e:s.heap.get? l=some {cls:=.type "list",data:=.seq its.toArray n}) (hf:f its.toArray=its'.toArray) (b:Vals ys its') (a:ys.length<=sizeLine) :
  Inv X pins σ (upd H l (.lst ys)) {s with heap:=s.heap.update l (Obj.mapSeq f),toks:=t'}:=by
 have q:=PySem.IsL.update e f;rw[hf]at q;refine I.write (x:=l) (e:=l) (by rw[d];exact trivial) (.inl rfl) (λb' u hb c=>(Heap.get?_update_other s.heap (Obj.mapSeq f) (Ne.symm hb)).trans c) ⟨_,q⟩ ?_;exact⟨a,its',_,b,q⟩
theorem Inv.lnew{its:List Value}{t':Nat}(I:Inv X pins σ H s)(b:Vals ys its)(a:ys.length<=sizeLine) :
  Inv X pins σ (upd H s.heap.objs.size (.lst ys)) {s with heap:=s.heap.push {cls:=.type "list",data:=.seq its.toArray},toks:=t'} :=
 I.laid (λ_ _ q=>Heap.get?_push_of_some _ q) (Nat.le_refl _) ⟨a,its,0,b,Heap.get?_push_size _ rfl⟩
theorem Inv.fresh(I:Inv X pins σ H s):H s.heap.objs.size=none:=I.hok.fresh (Nat.le_refl _)
theorem Inv.lstM(I:Inv X pins σ H s)(a:H l=some (.lst xs)):xs.length<=sizeLine/\∃(its:List Value) (n:Nat),Vals xs its/\xs.length=its.length/\s.heap.get? l=some {cls:=.type "list",data:=.seq its.toArray n}:=by
 obtain⟨z,its,n,r,e⟩:=I.hok l _ a;exact⟨z,its,n,r,r.length,e⟩
theorem b1A{n:Nat}(h:n<=sizeLine):Builtin.List.listTooLong n=false:=by
 unfold Builtin.List.listTooLong;exact decide_eq_false (by omega)
end
section
variable {X:Cx}
def a8a:V->List V->Hp->VK->Prop:=λx vs H Q=>∃l xs y,x=.ref l/\vs=[y]/\H l=some (.lst xs)/\xs.length<sizeLine/\Q .non (upd H l (.lst (xs++[y])))
theorem a9p:MtM X "list.append" a8a:=by
 intro pins s σ H x vs v us Q I c b h;obtain⟨l,xs,y,rfl,rfl,a,f,q⟩:=h;cases c;obtain⟨u,rfl,d⟩:=b.one;obtain⟨z,its,n,r,hl,e⟩:=I.lstM a;refine call_meets F.slot_list_append ⟨_,e,rfl⟩ F.entry_list_append (F.args_list_append_2 _ _) (PySem.list_append l its.toArray n u (by rw[List.size_toArray];omega)) ⟨e,?_⟩;refine⟨.non,_,I.lset (its':=its++[u]) a e (by simp) (r.append (.cons d .nil)) ?_,rfl,q⟩;rw[List.length_append,List.length_singleton];omega
def a7Z:V->List V->Hp->VK->Prop:=λx vs H Q=>∃l b xs zs,x=.ref l/\vs=[.ref b]/\H l=some (.lst xs)/\H b=some (.lst zs)/\xs.length+zs.length<=sizeLine/\Q .non (upd H l (.lst (xs++zs)))
theorem a9o:MtM X "list.extend" a7Z:=by
 intro pins s σ H x vs v us Q I g i h;obtain⟨l,b,xs,zs,rfl,rfl,d,m,p,q⟩:=h;cases g;obtain⟨u,rfl,j⟩:=i.one;cases j;obtain⟨z,its,n,r,hl,e⟩:=I.lstM d;obtain⟨z2,a,n2,o,f,k⟩:=I.lstM m;have hsz:its.toArray.size+a.toArray.size<=sizeLine:=by rw[List.size_toArray,List.size_toArray];omega
 have c:¬(!its.toArray.isEmpty && Builtin.List.listTooLong (its.toArray.size+a.toArray.size))=true:=by
  rw[b1A hsz,Bool.and_false];exact Bool.false_ne_true
 refine call_meets F.slot_list_extend ⟨_,e,rfl⟩ F.entry_list_extend (F.args_list_extend_2 _ _)
  (AutoSeq1.list_extend_list_list_0 l its.toArray n b a.toArray n2 c (by rw[List.size_toArray];omega) (by omega)) ⟨e,k,?_⟩
 refine⟨.non,_,I.lset (its':=its++a) d e (by simp) (r.append o) ?_,rfl,q⟩;rw[List.length_append];omega
def b0R:V->List V->Hp->VK->Prop:=λx vs H Q=>∃l xs i k y,x=.ref l/\vs=[.int i]/\H l=some (.lst xs) /\ -(2 ^ 63)<=i/\i<2 ^ 63/\seqIndex? i xs.length=some k/\xs[k]?=some y/\Q y (upd H l (.lst (xs.eraseIdx k)))
theorem b1B:MtM X "list.pop" b0R:=by
 intro pins s σ H x vs v us Q I c d h;obtain⟨l,xs,i,k,y,rfl,rfl,b,h1,h2,f,g,q⟩:=h;cases c;obtain⟨u,rfl,j⟩:=d.one;obtain⟨t,rfl⟩:=j;obtain⟨z,its,n,r,hl,e⟩:=I.lstM b;obtain⟨w,hw,a⟩:=r.get g;refine call_meets F.slot_list_pop ⟨_,e,rfl⟩ F.entry_list_pop (F.args_list_pop_2 _ _)
  (MeetsSeq.list_pop_at l its.toArray n i t k w (fitsIndex_both h1 h2) (by rw[List.size_toArray,<-hl];exact f) (by rw[<-Array.getElem?_toList];exact hw) (by rw[List.size_toArray];omega)) ⟨e,?_⟩
 refine⟨y,_,I.lset (its':=its.eraseIdx k) b e ?_ (r.eraseIdx k) ?_,a,q⟩
 .show its.toArray.eraseIdxIfInBounds k=(its.eraseIdx k).toArray;rw[List.eraseIdxIfInBounds_toArray]
 .have:=a3J xs k;omega
def b7i:R2:=λx y H Q=>∃l b xs zs,x=.ref l/\y=.ref b/\H l=some (.lst xs)/\H b=some (.lst zs)/\xs.length+zs.length<=sizeLine/\∀p,H p=none->Q (.ref p) (upd H p (.lst (xs++zs)))
theorem b6b:OpR X (binaryOp .Add) b7i:=by
 intro pins s σ H x y v u Q I d f h;obtain⟨l,b,xs,zs,rfl,rfl,j,i,o,q⟩:=h;cases d;cases f;obtain⟨z,its,n,r,hl,e⟩:=I.lstM j;obtain⟨z2,a,n2,k,c,g⟩:=I.lstM i;refine PySem.P.add_list e g ?_ (by rw[List.size_toArray,List.size_toArray];omega);have m:its.toArray++a.toArray=(its++a).toArray:=by simp
 rw[m];exact⟨.ref _,_,I.lnew (t':=s.toks) (r.append k) (by rw[List.length_append];omega),rfl,q _ I.fresh⟩
theorem a8f{α:Type}(xs:List α)(k:Nat):(List.replicate k xs).flatten.length=k*xs.length:=by
 induction k with
 |zero=>simp
 |succ k ih=>rw[List.replicate_succ,List.flatten_cons,List.length_append,ih,Nat.succ_mul,Nat.add_comm]
end
section
variable {prog:Program}{w:World}{A:Around}{E:Value->Shared->Prop}{s:Shared}
end
section
variable {X:Cx}
end
end L2
namespace Att
open PySem PySem.W PySem.Calls PyProof.Rows
theorem a1C{P:Params}{h:Heap}:∀(ns:List Int) (vs:List Value),WellAll P h vs (ns.map WData.int)->IntsAre vs ns:=by
 intro ns;induction ns with
 |nil =>
  intro vs w;rw[List.map_nil]at w;cases w;exact .nil
 |cons n ns ih =>
  intro vs w;rw[List.map_cons]at w;cases w with
  |cons a b =>
   cases a;exact .cons _ _ (ih _ b)
theorem a8P{l:OpenLaw}{n:Nat}(m:l.most=some n){P:Params}{h:Heap}{args:List WData}{c:List Value}
  (b:l.row.toRowW.claim.pre args=true) (i:WellAll P h c args) :
  ∃a vs ns,c=[Value.ref a]/\args=[WData.list (ns.map WData.int)]/\h.get? a=some {cls:=.type "list",data:=.seq vs.toArray}/\IntsAre vs ns/\ns.length<=n:=by
 have hsh:WShape.hasAll [] args [.list .int]=true:=(pre_splitW b).1;have hc:l.pre.holds [] {args:=args}=true:=(pre_splitW b).2;obtain⟨d,r,rfl,h1,h2⟩:=hasAllW_cons hsh;obtain rfl:=hasAllW_nil h2;obtain⟨xs,rfl,k⟩:=hasW_list h1;obtain⟨ns,rfl⟩:=items_int k;have e:ns.length<=n:=by
  unfold OpenLaw.pre at hc;have g:(WTm.not (.lt (.lit (.int (n:Int))) (.len (.arg 0)))).holds [] {args:=[.list (ns.map .int)]}=true:=by
   have g:=(holds_andW hc).1;rw[m]at g;exact g
  have f:=condW_of g (w_not (w_lt w_lit (w_len_list (w_arg rfl))));rw[List.length_map]at f;refine Nat.le_of_not_lt λq=>?_;have j:(n:Int)<((ns.length:Nat):Int):=by omega
  first
   |(rw[decide_eq_true j]at f;exact absurd f (by decide))
   |(simp at f;omega)
 cases i with
 |cons w1 w2 =>
  cases w2;cases w1 with
  |list ho hall=>exact⟨_,_,ns,rfl,rfl,ho,a1C ns _ hall,e⟩
theorem a9b(l:OpenLaw)(args:List WData):l.row.toRowW.claim.post args (.bool true) args=true :=
 postW_of (r:=l.row.toRowW) (X:=(true==true))
  (show WShape.has [] (.bool true) .bool=true by first|rfl|decide|simp[WShape.has,WShape.arms,WShape.armsAll])
  (show(WTm.eq .res (.lit (.bool true))).value [] {args:=args,res:=some (.bool true),after:=args}=some (.bool (true==true))from w_eq_bool (w_res rfl) w_lit) rfl
theorem attach_call{l:OpenLaw}{n:Nat}{q:Program}{b:List Str}{XP:(Str->Option Value)->Heap->Prop}{x:World->Heap->Prop}{d:DefRec}
  (A:l.most=some n) (u:d.params.defaults=[])
  (call:∀(w:World) (s₀ s₁:Shared) (mg p:Str->Option Value) (j:Addr) (o:Obj) (pm cd c:Value) (a:Addr) (vs:List Value) (ns:List Int),
   Ground q b [] XP w s₀ mg p s₁.heap->x w s₁.heap ->
   s₁.heap.get? j=some o->o.data=.func (docDef d.name d.params d.body d.scope pm cd c)->s₁.heap.CodeRec cd d.name->mg d.name=some (.ref j) ->
   s₁.heap.get? a=some {cls:=.type "list",data:=.seq vs.toArray}->IntsAre vs ns->ns.length<=n->s₁.gens=#[] ->
   codeAny (model l.prog w) callerA (.call (.ref j) ⟨[.ref a],[]⟩) (λr s'=>r=.ok (.ret (.bool true))/\OldK s₁.heap s'.heap/\s'.os=s₁.os/\AllBare s'.gens) s₁) :
  WalkO q b XP x l.row.toRowW d [] (λf vs=>PySem.call f vs):=by
 intro w s₀ s₁ mg p G Y j o pm cd c C kV E hd m y k D args z L h v H t K;obtain rfl:C=.none:=Dflts.none y u;obtain rfl:kV=.none:=Dflts.noKw y;obtain⟨a,vs,ns,rfl,rfl,i,e,g⟩:=a8P A h t;refine enter_call (codeAny_mono (call w s₀ s₁ mg p j o pm cd c a vs ns G Y E (fd_plain hd) m k i e g D) λr s' J=>?_);obtain⟨rfl,h2,F,I⟩:=J;exact⟨.inl ⟨.bool true,.bool true,[],rfl,λ_=>rfl,.bool true,a9b l _,λ_=>⟨List.Pairwise.nil,λ_ B=>(nomatch B)⟩⟩,h2,F,I⟩
section
variable {prog:Program}{w:World}{A:Around}{E:Value->Shared->Prop}{s:Shared}{K:Frag}
end
end Att
namespace L2
open PySem PySem.Spec PyProof.Rows
theorem a3t:∀{vs:List Value}{ns:List Int},IntsAre vs ns->Vals (ns.map V.int) vs
 |_,_,.nil=>.nil
 |_,_,.cons n t h=>.cons ⟨t,rfl⟩ (a3t h)
def b6V(H:Hp):Prop:=∀b,H b=none∨∃o xs,H b=some (.frz o (.lst xs))
theorem b1F{P:Program}{w:World}{K:PySem.W.Frag}{mg D:Str->Option Value}{CX:CXT}{k:Nat}{I a:Addr}{fd:FuncData}{x:Str}{sp:Sp}{s₁:Shared}{vs:List Value}{ns:List Int}
  (Q:K.In s₁.heap) (t:s₁.heap.Ns mainGlobals mg) (hb:s₁.heap.Ns builtinsNs D) (B:∀x:Str,x≠"__name__"->D x=bootBuiltins x) (p:s₁.heap.NoLimit) (U:s₁.gens=#[])
  (ha:s₁.heap.get? a=some {cls:=.type "list",data:=.seq vs.toArray}) (hi:IntsAre vs ns) (hl:ns.length<=sizeLine) (T:Room k callerA)
  (F:∀base:Heap,K.In base->base.Ns mainGlobals mg->FnOk P w K mg base CX k I fd [x] sp) (i:∀(s:Shared) (u:Value),BindsTo s fd ⟨[u],[]⟩ [(x,u)])
  (G:∀H:Hp,b6V H->SqL K H a (ns.map V.int)->sp [.ref a] H (λv _=>v=.bl true) λ_ _ _=>False)
  (L:∀H e s',CX [] H s₁ (λ_ _ _=>False) e s'->False) :
  codeAny (model P w) callerA (.call (.ref I) ⟨[.ref a],[]⟩) (λr s'=>r=.ok (.ret (.bool true))/\OldK s₁.heap s'.heap/\s'.os=s₁.os/\AllBare s'.gens) s₁:=by
 have M:=a3t hi;have y:=hi.length;have g:∀H:Hp,b6V H->SqL K H a (ns.map V.int)->HOk P w H s₁.heap->(∀b,H b≠none->b=a)->(H a≠none->K.lookup a=none) ->
   codeAny (model P w) callerA (.call (.ref I) ⟨[.ref a],[]⟩) (λr s'=>r=.ok (.ret (.bool true))/\OldK s₁.heap s'.heap/\s'.os=s₁.os/\AllBare s'.gens) s₁:=by
  intro H O hS hok R hK;have c:∀{b:Addr}{o:Obj},s₁.heap.get? b=some o->H b=none->(a4P s₁.heap H).get? b=some o:=λe n=>b1X e n;have E:∀{b:Addr}{o:Obj}{es:Array DictEntry}{ep:Nat},s₁.heap.get? b=some o->o.data=.dict es ep->H b=none:=λ{b o es ep} e d=>by
   cases q:H b with
   |none=>rfl
   |some u =>
    have J:b=a:=R b (by rw[q];simp);subst J;rw[ha]at e;cases e;have d':Data.seq vs.toArray _=Data.dict es ep:=d;cases d'
  have f:∀{b:Addr}{m:Str->Option Value},s₁.heap.Ns b m->(a4P s₁.heap H).Ns b m:=λ{b m} ⟨o,es,ep,e,d,r⟩=>⟨o,es,ep,c e (E e d),d,r⟩;have j:K.In (a4P s₁.heap H):=λb o e=>c (Q b o e) (by
   cases q:H b with
   |none=>rfl
   |some u =>
    have J:b=a:=R b (by rw[q];simp);subst J;rw[hK (by rw[q];simp)]at e;cases e)
  have hM:Mod K mg (a4P s₁.heap H):=⟨j,f t,⟨D,f hb,B⟩,let ⟨mc,h1,h2⟩:=p;⟨mc,f h1,h2⟩⟩;have S:Env0 P w K mg (a4P s₁.heap H) callerA [] s₁ H:=⟨rfl,hM,λb o e=>b3R e,Nat.le_of_eq (a9y _ _),trivial,λb hb=>absurd (show b∈([]:List Addr)from hb) (by simp),hok,.of_eq U⟩;refine codeAny_mono ((F _ j (f t)).run callerA [] s₁ H ⟨[.ref a],[]⟩ [.ref a] [.ref a] _ _ T S (i s₁ (.ref a)) (.cons rfl .nil) (G H O hS)) λr s' h=>?_;cases r with
  |error e=>exact(L H e s' h).elim
  |ok fl =>
   cases fl with
   |next=>exact False.elim h
   |brk=>exact False.elim h
   |cont=>exact False.elim h
   |ret u =>
    obtain⟨v,H',os,bare,un,l,Z,q⟩:=h;have X:v=.bl true:=q;subst X;obtain rfl:u=Value.bool true:=Z;refine⟨rfl,OldK.of_keep λb o e=>?_,os,bare⟩;cases q:H b with
    |none=>exact un.keep b o e q (by intro z;exact absurd (show b∈([]:List Addr)from z) (by simp)) (by simp)
    |some u =>
     rcases O b with z|⟨Y,xs,z⟩
     .rw[q]at z;cases z
     .have z2:=un.frzs b Y _ z;obtain⟨N,_⟩:=hok b _ z;obtain⟨e2,_⟩:=l b _ z2;rw[e]at N;cases N;exact e2
 cases C:K.lookup a with
 |some o =>
  have e:=Q a o C;rw[ha]at e;cases e;refine g (λ_=>none) (λ_=>.inl rfl) (.inr ⟨_,vs.toArray,_,C,rfl,rfl,rfl,by rw[List.size_toArray,y];exact hl,by simpa using M⟩) (λb u z=>by have A:(none:Option HO)=some u:=z;cases A) (λb z=>absurd rfl z) λz=>absurd rfl z
 |none =>
  refine g (λb=>if b=a then some (.frz {cls:=.type "list",data:=.seq vs.toArray} (.lst (ns.map V.int)))else none) (λb=>?_) (.inl (.inr ⟨{cls:=.type "list",data:=.seq vs.toArray},if_pos rfl⟩)) (λb u z=>?_) (λb z=>?_) λ_=>C
  .by_cases hb:b=a
   .exact .inr ⟨_,_,if_pos hb⟩
   .exact .inl (if_neg hb)
  .by_cases hb:b=a
   .have A:=(if_pos hb).symm.trans z;cases A;subst hb;exact⟨ha,by rw[List.length_map];exact hl,vs,_,M,ha⟩
   .have A:=(if_neg hb).symm.trans z;cases A
  .by_cases hb:b=a
   .exact hb
   .exact absurd (if_neg hb) z
theorem walk_of{l:PySem.W.OpenLaw}{n k:Nat}{q:Program}{j:List Str}{XP:(Str->Option Value)->Heap->Prop}{B:World->Heap->Prop}{d:DefRec}{K:Params->PySem.W.Frag}{CX:World->CXT}{sp:World->Sp}{x:Str}
  (I:l.most=some n) (y:n<=sizeLine) (z:d.params.defaults=[]) (E:Room k callerA)
  (D:∀(w:World) (h:Heap),B w h->(K w.params).In h)
  (F:∀(w:World) (mg:Str->Option Value) (p:Addr) (h:Heap),(K w.params).In h->h.Ns mainGlobals mg->mg d.name=some (.ref p) ->
   ∃fd:FuncData,(∀(s:Shared) (u:Value),BindsTo s fd ⟨[u],[]⟩ [(x,u)]) /\
    ∀base:Heap,(K w.params).In base->base.Ns mainGlobals mg->FnOk l.prog w (K w.params) mg base (CX w) k p fd [x] (sp w))
  (t:∀(w:World) (H:Hp) (a:Addr) (ns:List Int),ns.length<=n->b6V H->SqL (K w.params) H a (ns.map V.int)->sp w [.ref a] H (λv _=>v=.bl true) λ_ _ _=>False)
  (A:∀(w:World) (H:Hp) (s:Shared) (e:Value) (s':Shared),CX w [] H s (λ_ _ _=>False) e s'->False) :
  PySem.W.WalkO q j XP B l.row.toRowW d [] (λf vs=>PySem.call f vs):=by
 refine Att.attach_call I z λw s₀ s₁ mg P p o pm cd M a vs ns G Y Q hd L r m i c J=>?_;have C:=D w _ Y;obtain⟨fd,hb,hF⟩:=F w mg p _ C G.T.g r;exact b1F C G.T.g G.T.b G.T.builtins G.T.nolimit J m i (Nat.le_trans c y) E hF hb (λH N O=>t w H a ns c N O) λH e s'=>A w H s₁ e s'
end L2
namespace L2
open PySem PySem.Spec PyProof.Rows
noncomputable def T5(s:Stmt)(j:Nat):Stmt:=match s with
 |.ClassDef _ _ _ body _ _ _ _ _ _ _=>body.getD j (.Pass ⟨0,0,0,0⟩)
 |_=>.Pass ⟨0,0,0,0⟩
noncomputable def P0(s:Stmt):Arguments:=match s with
 |.FunctionDef _ a _ _ _ _ _ _ _ _=>a
 |_=>{posonlyargs:=[],args:=[],vararg:=none,kwonlyargs:=[],kw_defaults:=[],kwarg:=none,defaults:=[]}
noncomputable def E1(s:Stmt):List Stmt:=match s with
 |.FunctionDef _ _ b _ _ _ _ _ _ _=>b
 |_=>[]
noncomputable def A1(s:Stmt):Scope:=match s with
 |.FunctionDef _ _ _ _ _ _ sc _ _ _=>sc
 |_=>{kind:=.function,names:=[],isGenerator:=false,isCoroutine:=false}
abbrev CX0:CXT:=λ_ _ _ _ _ _=>False
abbrev E0:XK:=λ_ _ _=>False
theorem a8d{X:Cx}:a0j CX0 X E0:=λ_ _ _ _ _ _ _ h=>h.elim
structure Fun(K:PySem.W.Frag)(x qual:Str)(st:Stmt)(f:Addr)(fd:FuncData):Prop where
 ex:∃(oc:Value) (od:Option Addr) (kV doc pm:Value) (an:Option Addr) (cdv ct:Value) (osl:Array (Option Value)),
  fd=PySem.W.fnOf x qual (P0 st) (E1 st) (A1 st) .none kV doc pm an cdv ct/\K.lookup f=some ⟨oc,od,.func fd,osl⟩/\PySem.W.codeIn K cdv qual=true
 kp:PySem.W.keepIn K (.ref f)=true
section
variable {P:Program}{w:World}{K:PySem.W.Frag}{mg:Str->Option Value}{base:Heap}
theorem Fun.ok{x qual:Str}{st:Stmt}{f:Addr}{fd:FuncData}{N ps:List Str}{k:Nat}{sp:Sp}(F:Fun K x qual st f fd)(S:FnScope N ps (A1 st))(len:∀vs H Q E,sp vs H Q E->vs.length=ps.length)
  (b:∀(a:Value) (A:Around) (outer:List Env) (s:Shared) (H:Hp) (vs:List V) (Q:VK) (E:XK),Room k (A.deeper (envOfC qual (A1 st) s.heap.objs.size f a))->sp vs H Q E ->
   ∃t,PSs (V0 CX0 P w K mg base N qual (A1 st) f a A outer s H E).nox (E1 st) t/\t {nx:=λ_ H'=>Q .non H',rt:=Q} (start N vs) H):FnOk P w K mg base CX0 (k+1) f fd ps sp:=by
 obtain⟨oc,od,kV,g,pm,an,a,ct,j,rfl,e,d⟩:=F.ex;refine b5b e d S len λA outer s H vs Q E i c=>?_;obtain⟨t,h,q⟩:=b a A outer s H vs Q E i c;exact⟨t,h.nox,q⟩
theorem Fun.binds{x qual:Str}{st:Stmt}{f:Addr}{fd:FuncData}{ps:List Str}(F:Fun K x qual st f fd)
  (h:∀(kV a pm:Value) (an:Option Addr) (b ct:Value) (us:List Value),us.length=ps.length->bindArgs (PySem.W.fnOf x qual (P0 st) (E1 st) (A1 st) .none kV a pm an b ct) ⟨us,[]⟩=pure (ps.zip us)):Binds K fd ps []:=by
 obtain⟨oc,od,kV,a,pm,an,b,ct,c,rfl,e,d⟩:=F.ex;exact .all (h kV a pm an b ct)
theorem a2R{x qual:Str}{st:Stmt}{f:Addr}{oc:Value}{od an:Option Addr}{d:Array (Option Value)}{kV b pm a ct:Value}(l:K.lookup f=some ⟨oc,od,.func (PySem.W.fnOf x qual (P0 st) (E1 st) (A1 st) .none kV b pm an a ct),d⟩)
  (c:PySem.W.codeIn K a qual=true) (k:PySem.W.keepIn K (.ref f)=true):Fun K x qual st f (PySem.W.fnOf x qual (P0 st) (E1 st) (A1 st) .none kV b pm an a ct):=⟨⟨oc,od,kV,b,pm,an,a,ct,d,rfl,l,c⟩,k⟩
end
section
variable {X:Cx}
theorem pv(i:Nat){x:Str}{pos:Pos}(b:X.N[i]?=some x:=by rfl)(c:Vis X.env.scope x:=by first|exact Or.inl rfl|exact Or.inr (Or.inl rfl)|exact Or.inr (Or.inr rfl))(hd:(x==("__debug__" : Str))=false:=by decide)
  (a:(x==("__classdict__" : Str))=false:=by decide):PE X (.Name x pos) (L8 i):=b1f b c hd a
end
theorem D6{A B:Prop}(h:B):if false=true then A else B:=by
 rw[if_neg Bool.false_ne_true];exact h
theorem F0{A B:Prop}(h:A):if true=true then A else B:=by
 rw[if_pos rfl];exact h
theorem a3n{c A B:Prop}[Decidable c](h1:c->A)(h2:¬c->B):if c then A else B:=by
 by_cases h:c
 .rw[if_pos h];exact h1 h
 .rw[if_neg h];exact h2 h
def Same(H H':Hp):Prop:=∀b o,H b=some o->H' b=some o
theorem Same.refl(H:Hp):Same H H:=λ_ _ h=>h
theorem Same.trans{H H1 H2:Hp}(a:Same H H1)(b:Same H1 H2):Same H H2:=λc o h=>b c o (a c o h)
theorem Same.free{H H':Hp}(e:Same H H'){l:Addr}(h:H' l=Option.none):H l=Option.none:=by
 cases q:H l with
 |none=>rfl
 |some o =>
  rw[e l o q]at h;cases h
theorem Same.seq{K:PySem.W.Frag}{H H':Hp}{a:Addr}{xs:List V}(e:Same H H')(h:SqL K H a xs):SqL K H' a xs:=by
 rcases h with(h|⟨o,h⟩)|h
 .exact .inl (.inl (e _ _ h))
 .exact .inl (.inr ⟨o,e _ _ h⟩)
 .exact .inr h
noncomputable def G1(env:Env)(cs:List (Str×Addr))(x:Str×NameKind):List (Str×Addr) :=
 if x.2==.free then(match env.cells.lookup x.1 with|some a=>(x.1,a)::cs|none=>cs)else cs
noncomputable def a1G(scope:Scope)(env:Env):List (Str×Addr):=scope.names.foldl (G1 env) []
theorem a2Z{env:Env}(f:Str×NameKind->List (Str×Addr)->Sem (ForInStep (List (Str×Addr))))
  (hf:∀n k r,f (n,k) r=if (k==NameKind.free)=true then(do let a <-cellOf env n;pure (ForInStep.yield ((n,a)::r)))else pure (ForInStep.yield r)) :
  ∀(names:List (Str×NameKind)) (cs:List (Str×Addr)),(∀x∈names,x.2=.free->∃a,env.cells.lookup x.1=some a)->forIn names cs f=pure (names.foldl (G1 env) cs)
 |[],cs,_=>rfl
 |(n,k)::r,cs,h=>by
  rw[List.forIn_cons,List.foldl_cons,hf];have c:=λy g=>h y (List.mem_cons_of_mem _ g);by_cases d:k=.free
  .subst d;obtain⟨a,ha⟩:=h (n,NameKind.free) List.mem_cons_self rfl;have e:cellOf env n=pure a:=by unfold cellOf;rw[ha]
   have b:G1 env cs (n,NameKind.free)=(n,a)::cs:=by unfold G1;rw[ha];rfl
   rw[b,<-a2Z f hf r _ c,e];rfl
  .have hb:(k==NameKind.free)=false:=by simpa using d
   have b:G1 env cs (n,k)=cs:=by unfold G1;rw[hb];rfl
   rw[b,<-a2Z f hf r _ c,hb];rfl
theorem b2n{scope:Scope}{env:Env}(h:∀x∈scope.names,x.2=.free->∃a,env.cells.lookup x.1=some a):closureFor scope env=pure (a1G scope env):=by
 simp only[closureFor];rw[a2Z (env:=env) _ (λn k r=>by cases b:k==NameKind.free<;>simp[b]) scope.names [] h];rfl
theorem a3V{env:Env}{x:Str}{c:Addr}:∀(names:List (Str×NameKind)) (cs:List (Str×Addr)),(names.foldl (G1 env) cs).lookup x=some c->env.cells.lookup x=some c∨cs.lookup x=some c
 |[],cs,h=>.inr h
 |y::r,cs,h=>by
  rw[List.foldl_cons]at h;rcases a3V r _ h with z|z
  .exact .inl z
  .unfold G1 at z;split at z
   .split at z
    .rename_i a ha;rw[List.lookup_cons]at z;cases hb:x==y.1 with
     |true =>
      rw[hb]at z;rw[beq_iff_eq.mp hb];exact .inl (ha.trans z)
     |false =>
      rw[hb]at z;exact .inr z
    .exact .inr z
   .exact .inr z
theorem Z1{scope:Scope}{env:Env}{x:Str}{c:Addr}(h:(a1G scope env).lookup x=some c):env.cells.lookup x=some c :=
 (a3V scope.names [] h).elim id λz=>by cases z
theorem a0f{env:Env}{x:Str}{a:Addr}(ha:env.cells.lookup x=some a):∀(names:List (Str×NameKind)) (cs:List (Str×Addr)),((x,NameKind.free)∈names∨cs.lookup x=some a)->(∀c,cs.lookup x=some c->c=a)->(names.foldl (G1 env) cs).lookup x=some a
 |[],cs,h,_=>h.elim (λz=>by cases z) id
 |y::r,cs,h,hc=>by
  rw[List.foldl_cons];by_cases b:y.2=.free/\y.1=x
  .have e2:G1 env cs y=(x,a)::cs:=by unfold G1;rw[b.2,ha,b.1];rfl
   rw[e2];have d:((x,a)::cs).lookup x=some a:=by rw[List.lookup_cons];simp
   exact a0f ha r _ (.inr d) λc z=>by rw[d]at z;exact(Option.some.inj z).symm
  .have same:(G1 env cs y).lookup x=cs.lookup x:=by
    unfold G1;split
    .rename_i hk;split
     .have hne:(x==y.1)=false:=by
       cases hb:x==y.1 with
       |false=>rfl
       |true=>exact absurd ⟨by simpa using hk,(beq_iff_eq.mp hb).symm⟩ b
      rw[List.lookup_cons,hne]
     .rfl
    .rfl
   refine a0f ha r _ ?_ (by rw[same];exact hc);rw[same];rcases h with z|z
   .rcases List.mem_cons.mp z with e|z
    .exact absurd ⟨by rw[<-e],by rw[<-e]⟩ b
    .exact .inl z
   .exact .inr z
theorem a6j{scope:Scope}{env:Env}{x:Str}{a:Addr}(ha:env.cells.lookup x=some a)(b:(x,NameKind.free)∈scope.names):(a1G scope env).lookup x=some a :=
 a0f ha _ _ (.inl b) λc z=>by cases z
theorem R6{x:Str}{c:Addr}:∀(names:List (Str×NameKind)) (n:Nat) (a:List (Str×Addr)),(cellsFrom n names a).lookup x=some c->(n<=c/\(x,NameKind.cell)∈names)∨a.lookup x=some c
 |[],_,_,h=>.inr h
 |(y,k)::r,n,a,h=>by
  unfold cellsFrom at h;split at h
  .rename_i hk;have b:k=.cell:=by simpa using hk
   rcases R6 r _ _ h with⟨z1,z2⟩|z
   .exact .inl ⟨by omega,List.mem_cons_of_mem _ z2⟩
   .rw[List.lookup_cons]at z;cases hb:x==y with
    |true =>
     rw[hb]at z;cases z;exact .inl ⟨Nat.le_refl _,by rw[b,beq_iff_eq.mp hb];exact List.mem_cons_self⟩
    |false =>
     rw[hb]at z;exact .inr z
  .rcases R6 r _ _ h with⟨z1,z2⟩|z
   .exact .inl ⟨z1,List.mem_cons_of_mem _ z2⟩
   .exact .inr z
theorem a7n:∀(names:List (Str×NameKind)) (n:Nat) (a:List (Str×Addr)),(∀x c,a.lookup x=some c->c<n)->(∀x y c,a.lookup x=some c->a.lookup y=some c->x=y) ->
  ∀x y c,(cellsFrom n names a).lookup x=some c->(cellsFrom n names a).lookup y=some c->x=y
 |[],_,_,_,h2=>h2
 |(z,k)::r,n,a,h1,h2=>by
  unfold cellsFrom;split
  .have lk:∀x c,List.lookup x ((z,n)::a)=some c->(x=z/\c=n)∨a.lookup x=some c:=λx c e=>by
    rw[List.lookup_cons]at e;cases hb:x==z with
    |true=>rw[hb]at e;cases e;exact .inl ⟨beq_iff_eq.mp hb,rfl⟩
    |false=>rw[hb]at e;exact .inr e
   refine a7n r (n+1) _ (λx c e=>?_) λx y c e b=>?_
   .rcases lk x c e with⟨_,q⟩|q
    .rw[q];exact Nat.lt_succ_self _
    .exact Nat.lt_succ_of_lt (h1 x c q)
   .rcases lk x c e with⟨q1,q2⟩|q<;>rcases lk y c b with⟨p1,p2⟩|p
    .rw[q1,p1]
    .exact absurd (h1 y c p) (by rw[q2];exact Nat.lt_irrefl _)
    .exact absurd (h1 x c q) (by rw[p2];exact Nat.lt_irrefl _)
    .exact h2 x y c q p
  .exact a7n r n a h1 h2
theorem a4U{x:Str}:∀(names:List (Str×NameKind)) (n:Nat) (a:List (Str×Addr)),((x,NameKind.cell)∈names∨∃c,a.lookup x=some c)->∃c,(cellsFrom n names a).lookup x=some c
 |[],_,_,h=>h.elim (λz=>by cases z) id
 |(y,k)::r,n,a,h=>by
  unfold cellsFrom;split
  .rename_i hk;refine a4U r _ _ ?_;by_cases b:x=y
   .exact .inr ⟨n,by rw[List.lookup_cons,b];simp⟩
   .have hb:(x==y)=false:=beq_eq_false_iff_ne.mpr b;rcases h with z|⟨c,z⟩
    .rcases List.mem_cons.mp z with e|z
     .exact absurd (Prod.mk.inj e).1 b
     .exact .inl z
    .exact .inr ⟨c,by rw[List.lookup_cons,hb];exact z⟩
  .rename_i hk;refine a4U r _ _ ?_;rcases h with z|z
   .rcases List.mem_cons.mp z with e|z
    .exact absurd (by rw[<-(Prod.mk.inj e).2];rfl) hk
    .exact .inl z
   .exact .inr z
theorem a4D{x:Str}{c:Addr}:∀(names:List (Str×NameKind)) (h:Heap) (a:List (Str×Addr)),(∀x c,a.lookup x=some c->∃v,h.IsCell c v)->(cellsFrom h.objs.size names a).lookup x=some c->∃v,(pushCells h names).IsCell c v
 |[],h,a,ha,e=>ha x c e
 |(y,k)::r,h,a,ha,e=>by
  unfold cellsFrom at e;unfold pushCells;split at e
  .rename_i hk;rw[if_pos hk];rw[show h.objs.size+1=(h.push {cls:=.type "cell",data:=.cell none}).objs.size from(Heap.size_push ..).symm]at e;refine a4D r _ _ (λg f d=>?_) e;rw[List.lookup_cons]at d;cases hb:g==y with
   |true=>rw[hb]at d;cases d;exact⟨_,_,Heap.get?_push_size _ rfl,rfl⟩
   |false =>
    rw[hb]at d;obtain⟨v,z⟩:=ha g f d;exact⟨v,z.keeps λb o q=>Heap.get?_push_of_some _ q⟩
  .rename_i hk;rw[if_neg hk];exact a4D r _ _ ha e
section
variable {M:Model}{A:Around}{E:Value->Shared->Prop}{s:Shared}
theorem a6o{scope:Scope}{globals:Addr}{a:List (Str×Addr)}{qual:Str}{outer:Env}{Q:Env->Shared->Prop}
  (c:Q (newEnv scope s.heap.objs.size globals (cellsFrom (s.heap.objs.size+1) scope.names a) qual none .none (some outer) builtinsNs) {s with heap:=pushCells (s.heap.push {cls:=.type "dict",data:=.dict #[]}) scope.names}) :
  wpAny M A (newFunctionEnv scope globals a [] qual none .none (some outer)) Q E s:=by
 simp only[newFunctionEnv,Option.isSome_some,if_true];refine wpAny_bind (wpAny_alloc ?_);refine wpAny_bind (wpAny_layCells _ (λname kind cells=>by cases b:kind==NameKind.cell<;>simp[b]) _ _ _ _ ?_);rw[show({s with heap:=s.heap.push {cls:=.type "dict",data:=.dict #[]}}:Shared).heap.objs.size=s.heap.objs.size+1 from Heap.size_push ..];exact wpAny_bind (wpAny_pure (wpAny_pure c))
end
section
variable {prog:Program}{w:World}{A:Around}{s:Shared}
abbrev NoX:Value->Shared->Prop:=λ_ _=>False
theorem toE{α:Type}{M:Model}{A:Around}{t:Sem α}{Q b:α->Shared->Prop}{E:Value->Shared->Prop}{s:Shared}(h:wpAny M A t Q NoX s)(c:∀a s,Q a s->b a s):wpAny M A t b E s :=
 wpAny_mono h c λ_ _ z=>z.elim
theorem a4T{e a b:Expr}{f:List Expr}{scope:Scope}{pos:Pos}{it d:Value}{env:Env}{R:Result->Shared->Prop}(I:Nat->Shared->Prop)
  (g:∀n s,I n s->wpAny (model prog w) A (pyNext it) (λr s₁=>match r with
   |none=>R (.ok .next) s₁
   |some v=>wpAny (model prog w) A (letOwnedTupleGo a it v) (λ_ s₂=>wpAny (model prog w) A (assign a env v) (λ_ s₃ =>
     wpAny (model prog w) A (forIn f true λc r=>if r=true then do let ok <-isTrue c env (eval c env);pure (ForInStep.yield ok)else pure (ForInStep.yield r)) (λok s₄ =>
      if ok=true then wpAny (model prog w) A (eval e env) (λx s₅=>wpAny (model prog w) A (call (.builtin "list.append") [d,x]) (λ_ s₆=>∃m,m<n/\I m s₆) NoX s₅) NoX s₄
      else ∃m,m<n/\I m s₄) NoX s₃) NoX s₂) NoX s₁) NoX s)
  (n:Nat) (h:I n s):codeAny (model prog w) A (.compLoop (.ListComp e [⟨a,b,f,0⟩] scope pos) 0 it d env) R s:=by
 refine codeAny_loop rfl I (λn s hI=>?_) n h;show wpAny _ A ((compTurn (.ListComp e [⟨a,b,f,0⟩] scope pos) 0 it d env).onRaise (λx=>do noteFrame x env;theTreesLotGoes x)) _ _ s;refine wpAny_noted ?_;rw[compTurn_list];refine wpAny_bind (wpAny_standAt (wpAny_bind (toE (g n s hI) λr s₁ h₁=>?_)));cases r with
 |none=>exact wpAny_pure h₁
 |some v =>
  refine wpAny_bind (toE h₁ λ_ s₂ h₂=>wpAny_bind (toE h₂ λ_ s₃ h₃=>wpAny_bind (toE h₃ λok s₄ h₄=>?_)));cases ok with
  |false=>exact wpAny_pure ⟨rfl,h₄⟩
  |true=>exact wpAny_bind (wpAny_bind (toE h₄ λx s₅ h₅=>wpAny_bind (toE h₅ λ_ s₆ h₆=>wpAny_pure (wpAny_pure ⟨rfl,h₆⟩))))
end
noncomputable def Cx.blk(X:Cx)(N:List Str)(scope:Scope)(cells:List (Str×Addr))(C:Addr)(s:Shared)(H:Hp)(ex:List Addr):Cx :=
 {X with N:=N,s₀:=s,H₀:=H,env:=compEnvC scope cells C X.env,outer:=X.stack,stack:=X.stack,ex:=ex,fn:=λx=>scope.names.any λy=>y.1==x && y.2==.cell,pn:=[],xe:=NoX}
noncomputable def B1(src:List (Option Nat))(σ:St):St:=src.map λo=>o.bind λj=>(σ[j]?).join
noncomputable def B7(sc out:Scope):Bool:=sc.names.all λx=>x.2 != .free || (out.names.lookup x.1==some .cell || out.names.lookup x.1==some .free)
noncomputable def L6:List Str->List (Option Nat)->List Str->Scope->Bool
 |[],[],_,_=>true
 |x::N,o::src,M,sc=>(match o with|none=>true|some j=>M[j]? == some x && sc.names.lookup x==some .free) && L6 N src M sc
 |_,_,_,_=>false
noncomputable def a4v(sc:Scope):Bool:=sc.kind==.function && sc.names.all λx=>sc.names.lookup x.1==some x.2
theorem a3W:∀{N:List Str}{src:List (Option Nat)}{M:List Str}{a:Scope},L6 N src M a=true->src.length=N.length
 |[],[],_,_,_=>rfl
 |_::N,_::src,M,a,h=>by
  unfold L6 at h;rw[Bool.and_eq_true]at h;rw[List.length_cons,List.length_cons,a3W h.2]
 |[],_::_,_,_,h=>by simp[L6]at h
 |_::_,[],_,_,h=>by simp[L6]at h
theorem a3X:∀{N:List Str}{src:List (Option Nat)}{M:List Str}{a:Scope}{i:Nat}{x:Str}{j:Nat},L6 N src M a=true->N[i]?=some x->src[i]?=some (some j)->M[j]?=some x/\a.names.lookup x=some .free
 |[],[],_,_,_,_,_,_,h,_=>by simp at h
 |y::N,o::src,M,a,0,x,j,h,h1,h2=>by
  unfold L6 at h;rw[Bool.and_eq_true]at h;simp at h1 h2;subst h1 h2;have q:=h.1;rw[Bool.and_eq_true]at q;exact⟨beq_iff_eq.mp q.1,beq_iff_eq.mp q.2⟩
 |y::N,o::src,M,a,i+1,x,j,h,h1,h2=>by
  unfold L6 at h;rw[Bool.and_eq_true]at h;exact a3X h.2 (by simpa using h1) (by simpa using h2)
 |[],_::_,_,_,_,_,_,h,_,_=>by simp[L6]at h
 |_::_,[],_,_,_,_,_,h,_,_=>by simp[L6]at h
theorem a9W{src:List (Option Nat)}{σ:St}{i:Nat}{v:V}(h:(B1 src σ)[i]?=some (some v)):∃j,src[i]?=some (some j)/\σ[j]?=some (some v):=by
 unfold B1 at h;rw[List.getElem?_map]at h;cases e:src[i]? with
 |none=>rw[e]at h;cases h
 |some o =>
  rw[e]at h;cases o with
  |none=>cases h
  |some j =>
   refine⟨j,rfl,?_⟩;have h':(σ[j]?).join=some v:=Option.some.inj h;cases q:σ[j]? with
   |none=>rw[q]at h';cases h'
   |some z=>rw[q]at h';rw[show z=some v from h']
theorem V6{env:Env}:∀{names:List (Str×NameKind)}{x:Str}{k:NameKind},
  (names.map λ(n,k)=>if (k==NameKind.free && env.scope.kind==.function && env.kindOf n==some .cell)then(n,NameKind.cell)else(n,k)).lookup x=some k ->
  ∃a,names.lookup x=some a/\(k=a∨(a=.free/\k=.cell))
 |[],_,_,h=>by cases h
 |(n,k0)::r,x,k,h=>by
  rw[List.map_cons,List.lookup_cons]at h;rw[List.lookup_cons];dsimp only at h;split at h
  .rename_i h0;have hb:x==n:=by
    split at h0<;>exact h0
   rw[hb];refine⟨k0,rfl,?_⟩;split at h
   .rename_i hc;cases h;simp only[Bool.and_eq_true]at hc;exact .inr ⟨by simpa using hc.1.1,rfl⟩
   .cases h;exact .inl rfl
  .rename_i h0;have hb:(x==n)=false:=by
    split at h0<;>exact h0
   rw[hb];exact V6 h
theorem J0{env:Env}:∀{names:List (Str×NameKind)}{x:Str}{a:NameKind},names.lookup x=some a ->
  ∃k,(names.map λ(n,k)=>if (k==NameKind.free && env.scope.kind==.function && env.kindOf n==some .cell)then(n,NameKind.cell)else(n,k)).lookup x=some k/\(k=a∨(a=.free/\k=.cell))
 |[],_,_,h=>by cases h
 |(n,k0)::r,x,a,h=>by
  rw[List.lookup_cons]at h;rw[List.map_cons];by_cases hc:(k0==NameKind.free && env.scope.kind==.function && env.kindOf n==some .cell)=true
  .simp only[hc,if_true];rw[List.lookup_cons];cases hb:x==n with
   |true =>
    rw[hb]at h;cases h;simp only[Bool.and_eq_true]at hc;exact⟨_,rfl,.inr ⟨by simpa using hc.1.1,rfl⟩⟩
   |false=>rw[hb]at h;exact J0 h
  .simp only[if_neg hc];rw[List.lookup_cons];cases hb:x==n with
   |true=>rw[hb]at h;cases h;exact⟨_,rfl,.inl rfl⟩
   |false=>rw[hb]at h;exact J0 h
def PIf(X:Cx)(ifs:List Expr)(t:TT):Prop :=
 ∀(pins:List (Addr×Obj)) (s:Shared) (σ:St) (H:Hp) (Q:Bool->Hp->Prop),Inv X pins σ H s->t σ H Q ->
  wpAny (model X.prog X.w) X.A (forIn ifs true λc r=>if r=true then do let ok <-isTrue c X.env (eval c X.env);pure (ForInStep.yield ok)else pure (ForInStep.yield r)) (TP X pins σ Q) X.xe s
def K7:TT:=λ_ H Q=>Q true H
theorem b3r{X:Cx}:PIf X [] K7:=λpins s σ H Q I h=>wpAny_tests_nil ⟨H,I,h⟩
theorem b3q{X:Cx}{c:Expr}{t:TT}(h:PT X c t):PIf X [c] t:=λpins s σ H Q I q=>wpAny_tests_one (h pins s σ H Q I q)
def Sub(σ σ':St):Prop:=σ.length=σ'.length/\∀(i:Nat) (v:V),σ[i]?=some (some v)->σ'[i]?=some (some v)
def E5(src:List (Option Nat))(g:TG)(tt:TT)(te:TE)(σ:St)(Q:VK)(J:It)(H1:Hp):Prop :=
 ∃W:Nat->Nat->List V->Hp->Prop,(∃m,W 0 m [] H1)/\∀i m ys H,W i m ys H ->
  (J.stop i H/\ys.length<=sizeLine/\∀p,H p=none->Q (.ref p) (upd H p (.lst ys))) ∨
  (J.go i H/\ys.length<sizeLine/\∃N:List V->Hp->Prop,(∀zs H',N zs H'->∃m',m'<m/\W (i+1) m' zs H')/\∀x H',J.yld i H x H'->g x (B1 src σ) H' λσ2 H2=>Sub (B1 src σ) σ2/\tt σ2 H2 λb H3 =>
   if b=true then te σ2 H3 λv H4=>N (ys++[v]) H4 else N ys H3)
def a5n(src:List (Option Nat))(wi:TI)(g:TG)(tt:TT)(te:TE):TE:=λσ H Q=>wi σ H (E5 src g tt te σ Q)
section
variable {X:Cx}{pins:List (Addr×Obj)}{σ:St}{H:Hp}{s:Shared}
theorem Inv.block{N:List Str}{src:List (Option Nat)}{scope:Scope}{fp:List Addr}(I:Inv X pins σ H s)(hf:∀b∈fp,a1h X pins H b)(U:∀b∈fp,∃o,s.heap.get? b=some o)
  (J:B7 scope X.env.scope=true) (C:L6 N src X.N scope=true) (B:a4v scope=true) {lo:Obj} :
  Inv (X.blk N scope (cellsFrom (s.heap.objs.size+2) scope.names (a1G scope X.env)) (s.heap.objs.size+1) s H fp) [] (B1 src σ) H
   {s with heap:=pushCells ((s.heap.push lo).push {cls:=.type "dict",data:=.dict #[]}) scope.names}:=by
 unfold a4v at B;rw[Bool.and_eq_true]at B;have E:scope.kind=.function:=by simpa using B.1
 have D:∀x∈scope.names,scope.names.lookup x.1=some x.2:=λx A=>by simpa using List.all_eq_true.mp B.2 x A
 have t:∀x∈scope.names,x.2=.free->X.env.kindOf x.1=some .cell∨X.env.kindOf x.1=some .free:=λx A f=>by
  have q:=List.all_eq_true.mp J x A;rw[f]at q;have R:(X.env.scope.names.lookup x.1==some .cell || X.env.scope.names.lookup x.1==some .free)=true:=by simpa using q
  rw[Bool.or_eq_true]at R;exact R.imp (λz=>beq_iff_eq.mp z) λz=>beq_iff_eq.mp z
 have keep:∀b o,s.heap.get? b=some o->(pushCells ((s.heap.push lo).push {cls:=.type "dict",data:=.dict #[]}) scope.names).get? b=some o:=λb o e =>
  pushCells_keeps _ _ _ _ (Heap.get?_push_of_some _ (Heap.get?_push_of_some _ e))
 have L:∀x c,(a1G scope X.env).lookup x=some c->c<s.heap.objs.size:=λx c e=>by
  obtain⟨v,z⟩:=I.cell x c (Z1 e);exact z.lt
 have d:∀x c,(cellsFrom (s.heap.objs.size+2) scope.names (a1G scope X.env)).lookup x=some c->(s.heap.objs.size+2<=c/\(x,NameKind.cell)∈scope.names)∨X.env.cells.lookup x=some c:=λx c e =>
  (R6 _ _ _ e).imp id Z1
 have G:∀x k,(compEnvC scope (cellsFrom (s.heap.objs.size+2) scope.names (a1G scope X.env)) (s.heap.objs.size+1) X.env).kindOf x=some k->∃g,scope.names.lookup x=some g/\(k=g∨(g=.free/\k=.cell)):=λx k e =>
  V6 (env:=X.env) e
 have mem:∀{x k},scope.names.lookup x=some k->(x,k)∈scope.names:=λe=>mem_of_lookup e;refine⟨⟨I.ok.mod,?_,I.ok.glob,I.ok.blt,?_,?_,?_,?_,I.ok.hd,I.ok.frames,.inl rfl,?_,I.bs,Nat.le_trans I.ok.bsz I.sz,?_,?_,I.stack,I.stkFree⟩,rfl,I.bare,Un.kept keep,?_,?_,?_,?_,?_,I.hok.kept keep,?_⟩
 .exact E
 .exact Nat.le_succ _
 .-- inj
  refine a7n _ _ _ (λx c e=>?_) λx y c e Q=>I.ok.inj x y c (Z1 e) (Z1 Q);exact Nat.lt_of_lt_of_le (L x c e) (Nat.le_add_right _ 2)
 .-- has
  intro x A;refine a4U _ _ _ ?_;have f:∃g,scope.names.lookup x=some g/\(g=.cell∨g=.free):=by
   rcases A with A|A
   .obtain⟨g,e,z⟩:=G x _ A;exact⟨g,e,z.elim (λz=>.inl z.symm) λz=>.inr z.1⟩
   .obtain⟨g,e,z⟩:=G x _ A;exact⟨g,e,z.elim (λz=>.inr z.symm) λz=>by cases z.2⟩
  obtain⟨g,e,rfl|rfl⟩:=f
  .exact .inl (mem e)
  .obtain⟨a,ha⟩:=I.ok.has x (t _ (mem e) rfl);exact .inr ⟨a,a6j ha (mem e)⟩
 .-- cab
  intro x c A e;rcases d x c e with z|z
  .exact Nat.le_trans (Nat.le_add_right _ 2) z.1
  .-- x is the block's own cell, so it is not in the closure's part
   exfalso;obtain⟨y,V,F⟩:=List.any_eq_true.mp A;rw[Bool.and_eq_true]at F;have M:y.1=x:=beq_iff_eq.mp F.1;have O:y.2=.cell:=by simpa using F.2
   have l1:scope.names.lookup x=some .cell:=by rw[<-M,<-O];exact D y V
   rcases R6 _ _ _ e with q|q
   .obtain⟨v,z'⟩:=I.cell x c z;exact absurd (Nat.lt_of_lt_of_le z'.lt (Nat.le_trans (Nat.le_add_right _ 2) q.1)) (Nat.lt_irrefl _)
   .-- the closure holds free names alone
    have fr:∀(names:List (Str×NameKind)) (cs:List (Str×Addr)),(names.foldl (G1 X.env) cs).lookup x=some c->(x,NameKind.free)∈names∨cs.lookup x=some c:=by
     intro names;induction names with
     |nil=>intro cs h;exact .inr h
     |cons n r ih =>
      intro cs h;rw[List.foldl_cons]at h;rcases ih _ h with w|w
      .exact .inl (List.mem_cons_of_mem _ w)
      .unfold G1 at w;split at w
       .rename_i f;split at w
        .rw[List.lookup_cons]at w;cases hb:x==n.1 with
         |true =>
          have:n=(x,NameKind.free):=Prod.ext (beq_iff_eq.mp hb).symm (by simpa using f);exact .inl (by rw[this];exact List.mem_cons_self)
         |false=>rw[hb]at w;exact .inr w
        .exact .inr w
       .exact .inr w
    rcases fr _ _ q with w|w
    .have:=D _ w;rw[l1]at this;cases this
    .cases w
 .-- exf
  intro b hb;obtain⟨o,e⟩:=U b hb;have lt:=Heap.lt_size e;refine⟨Nat.ne_of_lt (Nat.lt_succ_of_lt lt),λx c hc=>?_⟩;rcases d x c hc with z|z
  .exact Nat.ne_of_gt (Nat.lt_of_lt_of_le lt (Nat.le_trans (Nat.le_add_right _ 2) z.1))
  .exact(hf b hb).2.2.2.2.1 x c z
 .-- noex
  intro b o e hb;rcases(hf b hb).2.2.2.1 with z|z
  .exact I.ok.noex b o e z
  .exact absurd (Nat.lt_of_lt_of_le (Heap.lt_size (I.ok.bs b o e).1) z) (Nat.lt_irrefl _)
 .-- exfs
  intro b hb z;rcases List.mem_cons.mp (I.stkSub b z)with q|q
  .exact(hf b hb).2.1 q
  .exact(hf b hb).2.2.1 q
 .-- loc
  refine⟨λ_=>none,?_,λi x v M O W=>?_⟩
  .have:=(Heap.Ns.new (s.heap.push lo) (.type "dict")).keeps (pushCells_keeps scope.names _);rw[Heap.size_push]at this;exact this
  .obtain⟨j,e4,e5⟩:=a9W O;obtain⟨S,K⟩:=a3X C M e4;obtain⟨m,_,hl⟩:=I.loc;have f:=t _ (mem K) rfl;have T:Vis X.env.scope x:=.inr (f.imp id id);obtain⟨u,r,l⟩:=hl j x v S e5 T;refine⟨u,r,.inr ⟨?_,?_⟩⟩
   .obtain⟨k,q,z⟩:=J0 (env:=X.env) K;rcases z with z|z
    .exact .inr (by rw[<-z];exact q)
    .exact .inl (by rw[<-z.2];exact q)
   .rcases l with l|⟨_,c,hc,z⟩
    .exfalso;rcases f with f|f<;>rw[l.1]at f<;>cases f
    .refine⟨c,?_,z.keeps keep⟩;have own:¬(x,NameKind.cell)∈scope.names:=λw=>by
      have:=D _ w;rw[K]at this;cases this
     obtain⟨P,q⟩:=a4U (x:=x) scope.names (s.heap.objs.size+2) (a1G scope X.env) (.inr ⟨c,a6j hc (mem K)⟩);rcases d x P q with w|w
     .exact absurd w.2 own
     .rw[hc]at w;cases w;exact q
 .-- cell
  intro x c e;have Q:(cellsFrom ((s.heap.push lo).push {cls:=.type "dict",data:=.dict #[]}).objs.size scope.names (a1G scope X.env)).lookup x=some c:=by
   rw[Heap.size_push,Heap.size_push];exact e
  refine a4D _ _ _ (λY P q=>?_) Q;obtain⟨v,z⟩:=I.cell Y P (Z1 q);exact⟨v,z.keeps λb o q=>Heap.get?_push_of_some _ (Heap.get?_push_of_some _ q)⟩
 .exact I.hok.fresh (Nat.le_succ _)
 .intro x c e;rcases d x c e with z|z
  .exact I.hok.fresh (Nat.le_trans (Nat.le_add_right _ 2) z.1)
  .exact I.freeC x c z
 .intro p hp;cases hp
 .show(B1 src σ).length=N.length;unfold B1;rw[List.length_map];exact a3W C
theorem Inv.unblock{N:List Str}{scope:Scope}{cells:List (Str×Addr)}{C a:Addr}{fp:List Addr}{pins':List (Addr×Obj)}{σ':St}{H':Hp}{s':Shared}{h':Heap}{ys:List V}{us:List Value}{n:Nat}
  (I:Inv X pins σ H s) (hf:∀b∈fp,a1h X pins H b) (p:s.heap.objs.size<=C) (ha:s.heap.objs.size<=a) (j:a≠C) (J:Inv (X.blk N scope cells C s H fp) pins' σ' H' s')
  (l:H' a=none) (hl:s'.heap.get? a=some {cls:=.type "list",data:=.seq us.toArray n}) (v:Vals ys us) (m:ys.length<=sizeLine) (hb:Heap.SameBut C s'.heap h') :
  Inv X pins σ (upd H' a (.lst ys)) {s' with heap:=h'}:=by
 have base:Un (frs X.stack) fp H H' s.heap s'.heap:=J.base;have kp:∀b o,b≠C->s'.heap.get? b=some o->h'.get? b=some o:=λb o q e=>hb.extBut b o q e;have old:∀b o,s.heap.get? b=some o->b≠C/\b≠a:=λb o e=>by
  have:=Heap.lt_size e;exact⟨Nat.ne_of_lt (Nat.lt_of_lt_of_le this p),Nat.ne_of_lt (Nat.lt_of_lt_of_le this ha)⟩
 have h:H' C=none:=J.free;have i:H a=none:=I.hok.fresh ha;have g:HOk X.prog X.w H' s'.heap:=J.hok;have k:HOk X.prog X.w (upd H' a (.lst ys)) h':=by
  intro b o e;by_cases f:b=a
  .subst f;rw[A0]at e;cases e;exact⟨m,us,n,v,kp _ _ j hl⟩
  .rw[A2 f]at e;refine(g b o e).stay (λc u hc q=>kp c u ?_ q) (λc q=>?_) λc xs q=>?_
   .rintro rfl;rcases hc with rfl|hc
    .rw[h]at e;cases e
    .rw[h]at hc;cases hc
   .rw[A2 (by rintro rfl;rw[l]at q;cases q)];exact q
   .rw[A2 (by rintro rfl;rw[l]at q;cases q)];exact q
 have d:∀b u,H b=some u->b≠a:=λb u e=>by rintro rfl;rw[i]at e;cases e
 refine I.call' (s':={s' with heap:=h'}) (ch:=fp) (J.os) ⟨λb o e q r t=>?_,λb o e q r t=>?_,λb o e q t=>?_,λb o e t=>?_,λb xs e=>?_,λb o u e=>?_,λb ps e=>?_⟩ k J.bare λb hb=>?_
 .exact kp b o (old b o e).1 (base.keep b o e q r t)
 .obtain⟨sl,z⟩:=base.slot b o e q r t;exact⟨sl,kp b _ (old b o e).1 z⟩
 .rw[A2 (old b o e).2];exact base.free b o e q t
 .obtain⟨o',z⟩:=base.there b o e t;exact⟨o',kp b _ (old b o e).1 z⟩
 .rw[A2 (d b _ e)];exact base.tups b xs e
 .rw[A2 (d b _ e)];exact base.frzs b o u e
 .rw[A2 (d b _ e)];exact base.tbls b ps e
 .obtain⟨_,h1,_,h3,h4,h5⟩:=hf b hb;exact⟨h3,h1,h4,h5⟩
set_option maxHeartbeats 4000000 in
theorem a3U{tg m M:Expr}{L:List Expr}{scope:Scope}{pos:Pos}{N:List Str}{src:List (Option Nat)}{wi:TI}{g:TG}{tt:TT}{te:TE}{Q:VK}{RR:Value->Addr->Result->Shared->Prop}(hc:X.calm=true)(hi:PI X tg m wi)
  (c0:B7 scope X.env.scope=true) (a7:L6 N src X.N scope=true) (c5:a4v scope=true)
  (hg:∀cells C s H ex,PG (X.blk N scope cells C s H ex) tg g) (ht:∀cells C s H ex,PIf (X.blk N scope cells C s H ex) L tt) (he:∀cells C s H ex,PE (X.blk N scope cells C s H ex) M te)
  (I:Inv X pins σ H s) (h:a5n src wi g tt te σ H Q)
  (b8:∀(s2 s4:Shared) (H2 H4:Hp) (fp:List Addr) (cells:List (Str×Addr)) (pl:List (Addr×Obj)) (σ4:St) (ys:List V) (us:List Value) (k:Nat),Inv X pins σ H2 s2->(∀b∈fp,a1h X pins H2 b) ->
   Inv (X.blk N scope cells (s2.heap.objs.size+1) s2 H2 fp) pl σ4 H4 s4->H4 s2.heap.objs.size=none->s4.heap.get? s2.heap.objs.size=some {cls:=.type "list",data:=.seq us.toArray k}->Vals ys us->ys.length<=sizeLine ->
   Q (.ref s2.heap.objs.size) (upd H4 s2.heap.objs.size (.lst ys))->RR (.ref s2.heap.objs.size) (s2.heap.objs.size+1) (.ok .next) s4) :
  wpAny (model X.prog X.w) X.A (eval m X.env) (λx s₁=>wpAny (model X.prog X.w) X.A (pyIter x) (λit s₂=>wpAny (model X.prog X.w) X.A (newList []) (λd3 s₃ =>
   wpAny (model X.prog X.w) X.A (newFunctionEnv scope X.env.globals (a1G scope X.env) [] X.env.qual none .none (some X.env)) (λb9 s₄ =>
    codeAny (model X.prog X.w) X.A (.compStart (.ListComp M [⟨tg,m,L,0⟩] scope pos) 0 it d3 {b9 with scope:=relabel scope X.env}) (RR d3 b9.locals) s₄) X.xe s₃) X.xe s₂) X.xe s₁) X.xe s:=by
 refine thn (hi pins s σ H _ I h) λv s1 h1=>thn h1 λd5 s2 h2=>?_;obtain⟨it,fp,tn,J,H2,e,P,T,c1,f2,W,⟨m0,w0⟩,c2⟩:=h2;subst e;have b6:∀b∈fp,∃o,s2.heap.get? b=some o:=λb hb=>(T.obj _ _ c1 b hb).imp λ_ q=>q.1;refine wpAny_newObj_type (a6o ?_);have hB:=P.block (lo:={cls:=.type "list",dict:=none,data:=.seq ([]:List Value).toArray}) f2 b6 c0 a7 c5;rw[show({s2 with heap:=s2.heap.push {cls:=.type "list",dict:=none,data:=.seq ([]:List Value).toArray}}:Shared).heap.objs.size=s2.heap.objs.size+1 from Heap.size_push ..];generalize G:cellsFrom (s2.heap.objs.size+1+1) scope.names (a1G scope X.env)=cells at hB⊢;generalize t:pushCells ((s2.heap.push {cls:=.type "list",dict:=none,data:=.seq ([]:List Value).toArray}).push {cls:=.type "dict",data:=.dict #[]}) scope.names=h4 at hB⊢;have R:∀b o,s2.heap.get? b=some o->h4.get? b=some o:=λb o q=>by
  rw[<-t];exact pushCells_keeps _ _ _ _ (Heap.get?_push_of_some _ (Heap.get?_push_of_some _ q))
 have a9:h4.get? s2.heap.objs.size=some {cls:=.type "list",data:=.seq ([]:List Value).toArray 0}:=by
  rw[<-t];exact pushCells_keeps _ _ _ _ (Heap.get?_push_of_some _ (Heap.get?_push_size _ rfl))
 have a6:tn 0 h4:=T.keep _ _ _ c1 λb _ o q=>R b o q;generalize a:X.blk N scope cells (s2.heap.objs.size+1) s2 H2 fp=f at hB;have eA:f.A=X.A:=by rw[<-a];rfl
 have eP:f.prog=X.prog:=by rw[<-a];rfl
 have ew:f.w=X.w:=by rw[<-a];rfl
 have eK:f.K=X.K:=by rw[<-a];rfl
 have ec:f.calm=true:=by rw[<-a];exact hc
 have ee:f.env=compEnvC scope cells (s2.heap.objs.size+1) X.env:=by rw[<-a];rfl
 have ex:f.ex=fp:=by rw[<-a];rfl
 have b0:f.pn=[]:=by rw[<-a];rfl
 have c8:f.s₀=s2:=by rw[<-a];rfl
 have S:f.xe=NoX:=by rw[<-a];rfl
 have eL:f.env.locals=s2.heap.objs.size+1:=by rw[ee];rfl
 have c6:f.fs=frs X.stack:=by rw[<-a];rfl
 have b7:=hB.ok;have cne:∀x c,f.env.cells.lookup x=some c->c≠s2.heap.objs.size:=λx c q=>by
  rw[ee]at q;have q':cells.lookup x=some c:=q;rw[<-G]at q';rcases R6 _ _ _ q' with z|z
  .exact Nat.ne_of_gt (Nat.lt_of_lt_of_le (Nat.lt_succ_self _) (Nat.le_trans (Nat.le_succ _) z.1))
  .obtain⟨v,z'⟩:=P.cell x c (Z1 z);exact Nat.ne_of_lt z'.lt
 have O:∀b∈fp,b≠s2.heap.objs.size:=λb hb=>by
  obtain⟨o,q⟩:=b6 b hb;exact Nat.ne_of_lt (Heap.lt_size q)
 have B:s2.heap.objs.size∉f.fs:=by
  rw[c6];intro z;rcases List.mem_cons.mp (P.stkSub _ z)with q|q
  .exact absurd P.lt (by rw[<-q];exact Nat.lt_irrefl _)
  .exact P.nofs (Nat.le_refl _) q
 have l:∀{H':Hp}{pl:List (Addr×Obj)},(∀b∈fp,H' b=none)->(∀p∈pl,p.1=s2.heap.objs.size)->∀b∈fp,a1h f pl H' b:=λ{H' pl} hn hp b hb=>by
  obtain⟨x1,x2⟩:=b7.exf b (by rw[ex];exact hb);refine⟨hn b hb,x1,b7.exfs b (by rw[ex];exact hb),.inl (by rw[ex];exact hb),x2,λp a8=>?_⟩;rw[b0,List.nil_append]at a8;rw[hp p a8];exact(O b hb).symm
 have main:∀s5:Shared,s5={s2 with heap:=h4}->codeAny (model X.prog X.w) X.A (.compLoop (.ListComp M [⟨tg,m,L,0⟩] scope pos) 0 (.ref it) (.ref s2.heap.objs.size) f.env)
   (RR (.ref s2.heap.objs.size) (s2.heap.objs.size+1)) s5:=by
  rintro s5 rfl;refine a4T (λn s'=>∃i H' ys us k,Inv f [] (B1 src σ) H' s'/\tn i s'.heap/\(∀b∈fp,H' b=none)/\H' s2.heap.objs.size=none /\
   s'.heap.get? s2.heap.objs.size=some {cls:=.type "list",data:=.seq (us:List Value).toArray k}/\Vals ys us/\W i n ys H') ?_ m0
   ⟨0,H2,[],[],0,hB,a6,λb hb=>(f2 b hb).1,P.hok.fresh (Nat.le_refl _),a9,.nil,w0⟩
  rintro n s3 ⟨i,Y,ys,us,k,I3,a0,Z,D,c3,r3,w3⟩;rcases c2 i n ys Y w3 with⟨stop,hz,qn⟩|⟨go,hz,Nn,hN,step⟩
  .have d:=T.done f eP ew eK ec i [] s3 (B1 src σ) Y NoX I3 (l Z (λ_ z=>by cases z)) a0 stop;rw[eA]at d;have a4:Inv f [(s2.heap.objs.size,{cls:=.type "list",data:=.seq us.toArray k})] (B1 src σ) Y s3:=I3.pins_of λp hp=>by
    rw[List.mem_singleton.mp hp];exact⟨c3,D,by rw[eL];exact Nat.ne_of_lt (Nat.lt_succ_self _),B,λv z=>by cases z⟩
   have d:=T.done f eP ew eK ec i _ s3 (B1 src σ) Y NoX a4 (l Z (λp z=>by rw[List.mem_singleton.mp z])) a0 stop;rw[eA]at d;refine thn d λr s4 ⟨hr,I4⟩=>?_;subst hr;have d0:=(I4.pin (s2.heap.objs.size,{cls:=.type "list",data:=.seq us.toArray k}) (List.mem_append_right _ List.mem_cons_self)).1;rw[<-a]at I4;exact b8 s2 s4 H2 Y fp cells _ _ ys us k P f2 I4 D d0 r3 hz (qn _ D)
  .have a4:Inv f [(s2.heap.objs.size,{cls:=.type "list",data:=.seq us.toArray k})] (B1 src σ) Y s3:=I3.pins_of λp hp=>by
    rw[List.mem_singleton.mp hp];exact⟨c3,D,by rw[eL];exact Nat.ne_of_lt (Nat.lt_succ_self _),B,λv z=>by cases z⟩
   have d:=T.item f eP ew eK ec i _ s3 (B1 src σ) Y NoX a4 (l Z (λp z=>by rw[List.mem_singleton.mp z])) a0 go;rw[eA]at d;refine thn d λr s4 ⟨u,hr,c4⟩=>?_;subst hr;refine thn c4 λ_ s5 ⟨x,H5,I5,r5,y5,a5,c9⟩=>?_;have d1:=I5.pinned (l c9 (λp z=>by rw[List.mem_singleton.mp z])) (T.obj _ _ a5);have d2:PG f tg g:=by rw[<-a];exact hg _ _ _ _ _
   have d4:PIf f L tt:=by rw[<-a];exact ht _ _ _ _ _
   have c7:PE f M te:=by rw[<-a];exact he _ _ _ _ _
   have a1:=d2 _ s5 _ H5 x u _ d1 r5 (step x H5 y5);rw[eP,ew,eA,S]at a1;refine thn a1 λ_ s6 ⟨σ6,H6,I6,sb,q6⟩=>?_;have a2:=d4 _ s6 σ6 H6 _ I6 q6;rw[eP,ew,eA,S]at a2;refine thn a2 λok s7 ⟨H7,I7,q7⟩=>?_;have back:∀{U:Hp}{E:Shared}{pl:List (Addr×Obj)},Inv f ([(s2.heap.objs.size,{cls:=.type "list",data:=.seq us.toArray k})]++a2t fp s5.heap) σ6 U E ->
     Inv f [] (B1 src σ) U E/\tn (i+1) E.heap/\(∀b∈fp,U b=none)/\U s2.heap.objs.size=none/\E.heap.get? s2.heap.objs.size=some {cls:=.type "list",data:=.seq us.toArray k}:=λ{U E pl} I8=>by
    have p0:=I8.pin (s2.heap.objs.size,{cls:=.type "list",data:=.seq us.toArray k}) (List.mem_append_right _ (List.mem_append_left _ List.mem_cons_self));refine⟨(I8.pins_of (pins':=[]) λp hp=>by cases hp).weak sb.1 sb.2,T.keep _ _ _ a5 λb hb o e=>(I8.pin (b,o) (List.mem_append_right _ (List.mem_append_right _ (S6 hb e)))).1,λb hb=>?_,p0.2.1,p0.1⟩;obtain⟨o,e,_⟩:=T.obj _ _ a5 b hb;exact(I8.pin (b,o) (List.mem_append_right _ (List.mem_append_right _ (S6 hb e)))).2.1
   cases ok with
   |false =>
    obtain⟨m',hm,w7⟩:=hN _ _ q7;obtain⟨b1,b2,b3,b4,b5⟩:=back (pl:=[]) I7;exact⟨m',hm,i+1,H7,ys,us,k,b1,b2,b3,b4,b5,r3,w7⟩
   |true =>
    have a3:=c7 _ s7 σ6 H7 _ I7 q7;rw[eP,ew,eA,S]at a3;refine thn a3 λy E ⟨vy,U,I8,ry,n8⟩=>?_;obtain⟨m',hm,w8⟩:=hN _ _ n8;obtain⟨b1,b2,b3,b4,b5⟩:=back (pl:=[]) I8;refine call_meets F.slot_list_append ⟨_,b5,rfl⟩ F.entry_list_append (F.args_list_append_2 _ _) (PySem.list_append s2.heap.objs.size us.toArray k y (by rw[List.size_toArray,<-r3.length];omega)) ⟨b5,?_⟩;have q:=PySem.IsL.update b5 (λxs=>xs.push y);rw[show us.toArray.push y=(us++[y]).toArray by simp]at q;have nb:∀b o,b≠s2.heap.objs.size->E.heap.get? b=some o->(E.heap.update s2.heap.objs.size (Obj.mapSeq λxs=>xs.push y)).get? b=some o:=λb o hb e =>
     (Heap.get?_update_other E.heap _ (Ne.symm hb)).trans e
    refine⟨m',hm,i+1,U,ys++[vy],us++[y],_,?_,?_,b3,b4,q,r3.append (.cons ry .nil),w8⟩
    .exact b1.turned nb b4 (by rw[eL];exact Nat.ne_of_lt (Nat.lt_succ_self _)) (.inr (by rw[c8];exact Nat.le_refl _)) cne λp hp=>by rw[b0]at hp;cases hp
    .exact T.keep _ _ _ b2 λb hb o e=>nb b o (O b hb) e
 have j:=main _ rfl;rw[ee]at j;exact codeAny_compStart_list j (T.self _ 0 _ _ _ a6 j)
theorem a3D{scope:Scope}(a:a4v scope=true):scope.kind=.function/\∀x∈scope.names,scope.names.lookup x.1=some x.2:=by
 unfold a4v at a;rw[Bool.and_eq_true]at a;exact⟨by simpa using a.1,λx b=>by simpa using List.all_eq_true.mp a.2 x b⟩
theorem Inv.clos{scope:Scope}(I:Inv X pins σ H s)(a:B7 scope X.env.scope=true):closureFor scope X.env=pure (a1G scope X.env):=b2n λx c d=>by
 have q:=List.all_eq_true.mp a x c;rw[d]at q;have b:(X.env.scope.names.lookup x.1==some .cell || X.env.scope.names.lookup x.1==some .free)=true:=by simpa using q
 rw[Bool.or_eq_true]at b;exact I.ok.has x.1 (b.imp (λz=>beq_iff_eq.mp z) λz=>beq_iff_eq.mp z)
theorem b3B{tg a i:Expr}{d:List Expr}{scope:Scope}{pos:Pos}{N:List Str}{src:List (Option Nat)}{wi:TI}{g:TG}{p:TT}{te:TE}(hc:X.calm=true)(hi:PI X tg a wi)
  (b:B7 scope X.env.scope=true) (f:L6 N src X.N scope=true) (e:a4v scope=true)
  (y:∀cells C s H ex,PG (X.blk N scope cells C s H ex) tg g) (D:∀cells C s H ex,PIf (X.blk N scope cells C s H ex) d p) (E:∀cells C s H ex,PE (X.blk N scope cells C s H ex) i te)
  (hs:∀x,foldedSetIterable a X.env x=pure x:=by intro _;rfl):PE X (.ListComp i [⟨tg,a,d,0⟩] scope pos) (a5n src wi g p te):=by
 intro pins s σ H Q I h;obtain⟨c,j⟩:=a3D e;rw[eval_ListComp];refine wpAny_comprehension_free (use:=none) rfl hs (I.clos b) c (λx z u=>by rw[<-u];exact j x z) (a3U (RR:=compPost (model X.prog X.w) X.A X.xe none (EP X pins σ Q)) hc hi b f e y D E I h ?_);intro s2 G H2 F fp cells pl σ4 ys us k v f2 r n l B t q;obtain⟨m,o,_⟩:=r.loc;exact⟨m,o,λh' hb=>⟨.ref s2.heap.objs.size,_,Inv.unblock v f2 (Nat.le_succ _) (Nat.le_refl _) (Nat.ne_of_lt (Nat.lt_succ_self _)) r n l B t hb,rfl,q⟩⟩
theorem b3j{i:Nat}{y:Str}{t l:Pos}{tg d j:Expr}{f:List Expr}{scope:Scope}{pos:Pos}{N:List Str}{src:List (Option Nat)}{wi:TI}{g:TG}{tt:TT}{te:TE}
  (hN:X.N.Nodup) (hy:X.N[i]?=some y) (O:Loc X.env.scope y)
  (hc:X.calm=true) (hi:PI X tg d wi) (n:B7 scope X.env.scope=true) (E:L6 N src X.N scope=true) (B:a4v scope=true)
  (hg:∀cells C s H ex,PG (X.blk N scope cells C s H ex) tg g) (ht:∀cells C s H ex,PIf (X.blk N scope cells C s H ex) f tt) (P:∀cells C s H ex,PE (X.blk N scope cells C s H ex) j te)
  (Z:swapsWith (.ListComp j [⟨tg,d,f,0⟩] scope pos) (some (.Name y t)) l.line X.env=pure true:=by rfl) (hs:∀x,foldedSetIterable d X.env x=pure x:=by intro _;rfl)
  (hf:X.fn y=true∨X.env.scope.names.lookup y=some .local:=by first|exact .inl rfl|exact .inr rfl|assumption) :
  PS X (.Assign [.Name y t] (.ListComp j [⟨tg,d,f,0⟩] scope pos) l) (a3e (a5n src wi g tt te) (A9 i)):=by
 intro pins s σ H D I h;obtain⟨r,S⟩:=a3D B;rw[exec_Assign_Name_used _ _ _ _ Z];refine wpAny_bind (wpAny_standAt (wpAny_bind ?_));show wpAny _ X.A (do let _ <-comprehension (.ListComp j [⟨tg,d,f,0⟩] scope pos) scope X.env _ (newList []) false (eval d X.env) (some (assign (.Name y t) X.env))) _ _ s;refine wpAny_bind (wpAny_mono (wpAny_comprehension_free (use:=some (assign (.Name y t) X.env)) (Q:=λ_ s'=>SP X pins D .next s') rfl hs (I.clos n) r (λx O hk=>by rw[<-hk];exact S x O)
  (a3U (RR:=compPost (model X.prog X.w) X.A X.xe (some (assign (.Name y t) X.env)) (λ_ s'=>SP X pins D .next s')) hc hi n E B hg ht P I h ?_)) (λ_ s' hq=>wpAny_pure (wpAny_pure hq)) λ_ _ e=>e)
 intro s2 s4 H2 H4 fp cells pl σ4 ys us k u f2 Y U T r4 hz q;obtain⟨m,W,_⟩:=Y.loc;have G:s4.heap.Ns (s2.heap.objs.size+1) m:=W;have V:H4 (s2.heap.objs.size+1)=none:=Y.free;have J:=Inv.unblock u f2 (Nat.le_succ _) (Nat.le_refl _) (Nat.ne_of_lt (Nat.lt_succ_self _)) Y U T r4 hz (Heap.SameBut.refl _ _);have K:s2.heap.objs.size+1≠X.env.locals:=Nat.ne_of_gt (Nat.lt_succ_of_lt u.lt);have L:∀x c,X.env.cells.lookup x=some c->c≠s2.heap.objs.size+1:=λx c e=>by
  obtain⟨v,z⟩:=u.cell x c e;exact Nat.ne_of_lt (Nat.lt_succ_of_lt z.lt)
 show wpAny _ X.A (assign (.Name y t) X.env (.ref s2.heap.objs.size)) _ _ s4;refine wpAny_assign_Name (a3z (v:=.ref s2.heap.objs.size) J hN hy O rfl (λs' I' hb=>?_) hf);obtain⟨a,sb,ha⟩:=hb;have F:s2.heap.objs.size+1≠a:=by
  rcases ha with rfl|ha
  .exact K
  .exact(L _ _ ha).symm
 refine⟨m,G.sameBut sb F,λh' M=>⟨_,_,I'.turned (t':=s'.toks) (it:=s2.heap.objs.size+1) (λb o R e=>M.extBut b o R e) ?_ K (.inr (Nat.le_trans u.sz (Nat.le_succ _))) L λp hp=>?_,q⟩⟩
 .rw[A2 (Nat.ne_of_gt (Nat.lt_succ_self _))];exact V
 .exact Nat.ne_of_lt (Nat.lt_succ_of_lt (Heap.lt_size (u.pin p hp).1))
end
def SqAt(k:Bool)(h:Heap)(l:Addr)(xs:Array Value):Prop:=match k with|true=>h.IsTuple l xs|false=>h.IsList l xs
def ItAt(k:Bool)(h:Heap)(i l:Addr)(n:Nat):Prop:=match k with|true=>h.IsTupleIter i l n|false=>h.IsListIter i l n
noncomputable def b6w:Bool->String|true => "tuple_iterator" | false => "list_iterator"
noncomputable def a1v(k:Bool)(l:Addr):Obj:={cls:=.type (b6w k),data:=.fields #[.ref l,.int 0 0]}
theorem ItAt.extBut{k:Bool}{h h':Heap}{i l b:Addr}{n:Nat}(x:ItAt k h i l n)(hs:Heap.ExtBut b h h')(hb:i≠b):ItAt k h' i l n:=by
 cases k
 .exact Heap.IsListIter.extBut x hs hb
 .exact Heap.IsTupleIter.extBut x hs hb
theorem ItAt.at{k:Bool}{h h':Heap}{i l:Addr}{n:Nat}(x:ItAt k h i l n)(e:∀o,h.get? i=some o->h'.get? i=some o):ItAt k h' i l n:=by
 cases k
 .exact Heap.IsListIter.at x e
 .exact Heap.IsTupleIter.at x e
theorem ItAt.get{k:Bool}{h:Heap}{i l:Addr}{n:Nat}(x:ItAt k h i l n):∃o,h.get? i=some o/\o.data=.fields #[.ref l,.int n 0]:=by
 cases k<;>obtain⟨o,e,c,d⟩:=x<;>exact⟨o,e,d⟩
theorem SqAt.extBut{k:Bool}{h h':Heap}{l b:Addr}{xs:Array Value}(x:SqAt k h l xs)(hs:Heap.ExtBut b h h')(hb:l≠b):SqAt k h' l xs:=by
 cases k
 .exact Heap.IsList.extBut x hs hb
 .exact Heap.IsTuple.extBut x hs hb
theorem SqAt.at{k:Bool}{h h':Heap}{l:Addr}{xs:Array Value}(x:SqAt k h l xs)(e:∀o,h.get? l=some o->h'.get? l=some o):SqAt k h' l xs:=by
 cases k<;>obtain⟨o,q,r⟩:=x<;>exact⟨o,e o q,r⟩
theorem SqAt.get{k:Bool}{h:Heap}{l:Addr}{xs:Array Value}(x:SqAt k h l xs):∃o,h.get? l=some o:=by
 cases k<;>obtain⟨o,q,r⟩:=x<;>exact⟨o,q⟩
section
variable {prog:Program}{w:World}{A:Around}{E:Value->Shared->Prop}{s:Shared}
theorem a1B{it t:Addr}{i:Nat}{items:Array Value}{x:Value}{Q:Value->Shared->Prop}(a:s.heap.IsTupleIter it t i)(g:s.heap.IsTuple t items)(e:items[i]?=some x)
  (f:∀h',h'.IsTupleIter it t (i+1)->Heap.SameBut it s.heap h'->Q x {s with heap:=h'}):wpAny (model prog w) A (Builtin.SmallTypes.nextOf (.ref it)) Q E s:=by
 obtain⟨o,b,hc,hd⟩:=id a;obtain⟨h,c,_,j,d⟩:=g;unfold Builtin.SmallTypes.nextOf;refine wpAny_bind (wpAny_callSpecial?_slot (name:=Str.ofString "__next__") a.typeIs F.slot_tuple_iterator_next
  (wpAny_call_entry F.slot_tuple_iterator_next a.typeIs F.entry_tuple_iterator_next ?_ (F.args_tuple_iterator_next_1 _)))
 show wpAny _ _ (field (.ref it) 0>>=_) _ _ s;refine wpAny_bind (wpAny_field b hd (x:=.ref t) rfl ?_);show wpAny _ _ (if (Value.ref t==Value.none)=true then _ else _) _ _ s;rw[if_neg (show ¬((Value.ref t==Value.none)=true)from Bool.false_ne_true)];show wpAny _ _ (field (.ref it) 1>>=_) _ _ s;refine wpAny_bind (wpAny_field b hd (x:=.int i 0) rfl ?_);show wpAny _ _ (seqItems? (.ref t)>>=_) _ _ s;refine wpAny_bind (wpAny_seqItems c d ?_);simp only[Int.toNat_natCast,e];refine wpAny_bind (wpAny_setField b hd (by simp) (wpAny_pure ⟨x,rfl,wpAny_pure (f _ ?_ (Heap.SameBut.update ..))⟩));exact⟨_,Heap.get?_update_self _ b (Obj.isFreed_of_fields (Obj.data_mapFields hd _)),(Obj.cls_mapFields ..).trans hc,by
  rw[Obj.data_mapFields hd];simp[rawInt]⟩
theorem a2y{it t:Addr}{i:Nat}{items:Array Value}{Q:Value->Shared->Prop}(g:A.handled=none)(b:s.heap.IsTupleIter it t i)(j:s.heap.IsTuple t items)(h:items[i]?=none)
  (k:∀h' e,Heap.ExtBut it s.heap h'->(∃o,h'.get? e=some o/\o.cls=.type "StopIteration")->E (.ref e) {s with heap:=h'}) :
  wpAny (model prog w) A (Builtin.SmallTypes.nextOf (.ref it)) Q E s:=by
 obtain⟨o,c,hc,hd⟩:=id b;obtain⟨l,f,_,n,d⟩:=j;unfold Builtin.SmallTypes.nextOf;refine wpAny_bind (wpAny_callSpecial?_slot (name:=Str.ofString "__next__") b.typeIs F.slot_tuple_iterator_next
  (wpAny_call_entry F.slot_tuple_iterator_next b.typeIs F.entry_tuple_iterator_next ?_ (F.args_tuple_iterator_next_1 _)))
 show wpAny _ _ (field (.ref it) 0>>=_) _ _ s;refine wpAny_bind (wpAny_field c hd (x:=.ref t) rfl ?_);show wpAny _ _ (if (Value.ref t==Value.none)=true then _ else _) _ _ s;rw[if_neg (show ¬((Value.ref t==Value.none)=true)from Bool.false_ne_true)];show wpAny _ _ (field (.ref it) 1>>=_) _ _ s;refine wpAny_bind (wpAny_field c hd (x:=.int i 0) rfl ?_);show wpAny _ _ (seqItems? (.ref t)>>=_) _ _ s;refine wpAny_bind (wpAny_seqItems f d ?_);simp only[Int.toNat_natCast,h];refine wpAny_bind (wpAny_rule (wpAny_bind (wpAny_setField c hd (by simp) ?_)));show wpAny _ _ (newExc (.type "StopIteration") []>>=_) _ _ _;refine wpAny_bind ?_;simp only[newExc,newTuple];refine wpAny_bind (wpAny_newObj_type ?_ (by size_fits));refine wpAny_bind (m:=firstArgMember _ _) (wpAny_of_eq (a:=Value.none) (by first|rfl | (simp only[firstArgMember];rfl)) ?_);refine wpAny_newObj_type ?_ (by size_fits);simp only[raiseNew];refine wpAny_bind (wpAny_handled ?_)
 first|rw[show A.in1.handled=none from g]|rw[g]
 refine wpAny_bind (wpAny_pure (wpAny_throw ?_));exact k _ _ (((Heap.SameBut.update ..).extBut.push _).push _) ⟨_,Heap.get?_push_size _ rfl,rfl⟩
theorem a2f{k:Bool}{it l:Addr}{i:Nat}{items:Array Value}{x:Value}{Q:Value->Shared->Prop}(a:ItAt k s.heap it l i)(d:SqAt k s.heap l items)(b:items[i]?=some x)
  (c:∀h',ItAt k h' it l (i+1)->Heap.SameBut it s.heap h'->Q x {s with heap:=h'}):wpAny (model prog w) A (Builtin.SmallTypes.nextOf (.ref it)) Q E s:=by
 cases k
 .exact wpAny_nextOf_list_item a d b c
 .exact a1B a d b c
theorem a7L{k:Bool}{it l:Addr}{i:Nat}{items:Array Value}{Q:Value->Shared->Prop}(c:A.handled=none)(a:ItAt k s.heap it l i)(d:SqAt k s.heap l items)(b:items[i]?=none)
  (f:∀h' e,Heap.ExtBut it s.heap h'->(∃o,h'.get? e=some o/\o.cls=.type "StopIteration")->E (.ref e) {s with heap:=h'}) :
  wpAny (model prog w) A (Builtin.SmallTypes.nextOf (.ref it)) Q E s:=by
 cases k
 .exact wpAny_nextOf_list_end c a d b f
 .exact a2y c a d b f
theorem V1{k:Bool}{l:Addr}{items:Array Value}{Q:Value->Shared->Prop}(b:SqAt k s.heap l items)(a:Q (.ref s.heap.objs.size) {s with heap:=s.heap.push (a1v k l)}):wpAny (model prog w) A (pyIter (.ref l)) Q E s:=by
 cases k
 .exact wpAny_pyIter_list b a
 .exact wpAny_pyIter_tuple b a
end
section
variable {prog:Program}{w:World}{A:Around}{E:Value->Shared->Prop}{s:Shared}{k1 k2:Bool}
theorem b0a{z TI TO g j l1 l2:Addr}{n1 n2:Nat}{xs ys:Array Value}{x y a b:Value}{Q:Value->Shared->Prop}(D:ZipApart z TI TO g j l1 l2)
  (f:IsZip s.heap z TI TO .none) (r:IsPair s.heap TI (.ref g) (.ref j)) (d:IsPair s.heap TO a b)
  (h1:ItAt k1 s.heap g l1 n1) (h2:ItAt k2 s.heap j l2 n2) (t:SqAt k1 s.heap l1 xs) (p:SqAt k2 s.heap l2 ys) (u:xs[n1]?=some x) (C:ys[n2]?=some y)
  (B:∀h',IsZip h' z TI TO (rawInt s.heap.objs.size)->IsPair h' TO x y->ItAt k1 h' g l1 (n1+1)->ItAt k2 h' j l2 (n2+1)->IsPair h' s.heap.objs.size x y->h'.objs.size=s.heap.objs.size+1 ->
   (∀c o,c≠z->c≠TO->c≠g->c≠j->s.heap.get? c=some o->h'.get? c=some o)->Q (.ref s.heap.objs.size) {s with heap:=h'}) :
  wpAny (model prog w) A (Builtin.«zip.__next__» ⟨[.ref z],[]⟩) (λfin s'=>∃v,fin=.done (.ret v)/\Q v s') E s:=by
 show wpAny _ _ (field (.ref z) 2>>=_) _ _ _;refine wpAny_bind (wpAny_field f rfl (x:=.bool false) rfl ?_);show wpAny _ _ (field (.ref z) 3>>=_) _ _ _;refine wpAny_bind (wpAny_field f rfl (x:=.ref TI) rfl ?_);refine wpAny_bind (wpAny_seqItems r rfl ?_);show wpAny _ _ (Builtin.SmallTypes.ownedTupleIsFree (.ref z)>>=_) _ _ _;refine wpAny_bind ?_;unfold Builtin.SmallTypes.ownedTupleIsFree;refine wpAny_bind (wpAny_field f rfl (x:=.none) rfl (wpAny_pure ?_));simp only[if_true];refine wpAny_bind (wpAny_rule ?_);refine wpAny_bind (wpAny_field f rfl (x:=.ref TO) rfl ?_);refine wpAny_bind (wpAny_setField_rec f (by simp) λh₁ hz₁ hs₁=>?_);replace hz₁:IsZip h₁ z TI TO .ellipsis:=hz₁;refine wpAny_bind ?_;simp only[List.zipIdx_cons,List.zipIdx_nil,List.forIn_cons,List.forIn_nil];refine wpAny_bind (wpAny_bind (wpAny_onRaise ?_));show wpAny _ _ (Builtin.SmallTypes.nextOf (.ref g)>>=_) _ _ _;refine wpAny_bind (a2f (h1.extBut hs₁.extBut D.i1z) (t.extBut hs₁.extBut D.l1z) u λh₂ h1₂ hs₂=>wpAny_pure ?_);have hTO₂:IsPair h₂ TO a b:=hs₂.extBut _ _ D.TOi1 (hs₁.extBut _ _ D.TOz d);refine wpAny_bind (wpAny_seqItems hTO₂ rfl ?_);refine wpAny_bind (wpAny_updateSeq_pair hTO₂ λh₃ hTO₃ hs₃=>?_);replace hTO₃:IsPair h₃ TO x b:=hTO₃;refine wpAny_bind (wpAny_letGo (wpAny_pure ?_));refine wpAny_bind (wpAny_bind (wpAny_onRaise ?_));show wpAny _ _ (Builtin.SmallTypes.nextOf (.ref j)>>=_) _ _ _;refine wpAny_bind (a2f (((h2.extBut hs₁.extBut D.i2z).extBut hs₂.extBut D.i12.symm).extBut hs₃.extBut D.TOi2.symm)
  (((p.extBut hs₁.extBut D.l2z).extBut hs₂.extBut D.l2i1).extBut hs₃.extBut D.l2TO) C λh₄ h2₄ hs₄=>wpAny_pure ?_)
 have hTO₄:IsPair h₄ TO x b:=hs₄.extBut _ _ D.TOi2 hTO₃;refine wpAny_bind (wpAny_seqItems hTO₄ rfl ?_);refine wpAny_bind (wpAny_updateSeq_pair hTO₄ λh₅ hTO₅ hs₅=>?_);replace hTO₅:IsPair h₅ TO x y:=hTO₅;refine wpAny_bind (wpAny_letGo (wpAny_pure (wpAny_pure ?_)));refine wpAny_bind (wpAny_seqItems hTO₅ rfl ?_);refine wpAny_bind (wpAny_newTuple ?_);have hsz:h₅.objs.size=s.heap.objs.size:=by rw[hs₅.1,hs₄.1,hs₃.1,hs₂.1,hs₁.1]
 have hz₅:IsZip h₅ z TI TO .ellipsis:=hs₅.extBut _ _ D.TOz.symm (hs₄.extBut _ _ D.i2z.symm (hs₃.extBut _ _ D.TOz.symm (hs₂.extBut _ _ D.i1z.symm hz₁)));have hk₅:∀c o,c≠z->c≠TO->c≠g->c≠j->s.heap.get? c=some o->h₅.get? c=some o:=λc o k m q n e =>
  hs₅.extBut _ _ m (hs₄.extBut _ _ n (hs₃.extBut _ _ m (hs₂.extBut _ _ q (hs₁.extBut _ _ k e))))
 have h1₅:ItAt k1 h₅ g l1 (n1+1):=((h1₂.extBut hs₃.extBut D.TOi1.symm).extBut hs₄.extBut D.i12).extBut hs₅.extBut D.TOi1.symm;have h2₅:ItAt k2 h₅ j l2 (n2+1):=h2₄.extBut hs₅.extBut D.TOi2.symm;have i:z<h₅.objs.size:=Heap.lt_size hz₅;show wpAny _ _ (Builtin.SmallTypes.ownedTupleHandOut (.ref z) (.ref h₅.objs.size)>>=_) _ _ _;refine wpAny_bind ?_;unfold Builtin.SmallTypes.ownedTupleHandOut;have hz₆:IsZip (h₅.push {cls:=.type "tuple",data:=.seq #[x,y]}) z TI TO .ellipsis:=Heap.get?_push_of_some _ hz₅;refine wpAny_bind (wpAny_setField_rec hz₆ (by simp) λh₇ hz₇ hs₇=>?_);replace hz₇:IsZip h₇ z TI TO (rawInt h₅.objs.size):=hz₇;refine wpAny_setField_rec hz₇ (by simp) λh₈ hz₈ hs₈=>?_;replace hz₈:IsZip h₈ z TI TO (rawInt h₅.objs.size):=hz₈;have up:∀c o,c≠z->h₅.get? c=some o->h₈.get? c=some o:=λc o k e=>hs₈.extBut _ _ k (hs₇.extBut _ _ k (Heap.get?_push_of_some _ e));have hT₈:IsPair h₈ h₅.objs.size x y:=hs₈.extBut _ _ (Nat.ne_of_gt i) (hs₇.extBut _ _ (Nat.ne_of_gt i) (Heap.get?_push_size _ rfl));have l:h₈.objs.size=h₅.objs.size+1:=by rw[hs₈.1,hs₇.1,Heap.size_push]
 rw[hsz]at hz₈ hT₈ l;refine wpAny_pure ⟨_,rfl,?_⟩;show Q (.ref h₅.objs.size) _;rw[hsz];exact B h₈ hz₈ (up _ _ D.TOz hTO₅) (h1₅.at λo e=>up _ o D.i1z e) (h2₅.at λo e=>up _ o D.i2z e) hT₈ l λc o k m q n e=>up c o k (hk₅ c o k m q n e)
theorem b2E{z TI TO m n l1 l2:Addr}{n1 n2:Nat}{xs ys:Array Value}{a b:Value}{Q:Fin->Shared->Prop}(B:A.handled=none)(D:ZipApart z TI TO m n l1 l2)
  (d:IsZip s.heap z TI TO .none) (v:IsPair s.heap TI (.ref m) (.ref n)) (i:IsPair s.heap TO a b)
  (h1:ItAt k1 s.heap m l1 n1) (h2:ItAt k2 s.heap n l2 n2) (k:SqAt k1 s.heap l1 xs) (t:SqAt k2 s.heap l2 ys) (l:xs[n1]?=none∨ys[n2]?=none)
  (C:∀h' e,(∀c o,c≠z->c≠TO->c≠m->c≠n->s.heap.get? c=some o->h'.get? c=some o)->(∃o,h'.get? e=some o/\o.cls=.type "StopIteration")->E (.ref e) {s with heap:=h'}) :
  wpAny (model prog w) A (Builtin.«zip.__next__» ⟨[.ref z],[]⟩) Q E s:=by
 show wpAny _ _ (field (.ref z) 2>>=_) _ _ _;refine wpAny_bind (wpAny_field d rfl (x:=.bool false) rfl ?_);show wpAny _ _ (field (.ref z) 3>>=_) _ _ _;refine wpAny_bind (wpAny_field d rfl (x:=.ref TI) rfl ?_);refine wpAny_bind (wpAny_seqItems v rfl ?_);show wpAny _ _ (Builtin.SmallTypes.ownedTupleIsFree (.ref z)>>=_) _ _ _;refine wpAny_bind ?_;unfold Builtin.SmallTypes.ownedTupleIsFree;refine wpAny_bind (wpAny_field d rfl (x:=.none) rfl (wpAny_pure ?_));simp only[if_true];refine wpAny_bind (wpAny_rule ?_);refine wpAny_bind (wpAny_field d rfl (x:=.ref TO) rfl ?_);refine wpAny_bind (wpAny_setField_rec d (by simp) λh₁ hz₁ hs₁=>?_);replace hz₁:IsZip h₁ z TI TO .ellipsis:=hz₁;refine wpAny_bind ?_;simp only[List.zipIdx_cons,List.zipIdx_nil,List.forIn_cons,List.forIn_nil];refine wpAny_bind (wpAny_bind (wpAny_onRaise ?_));show wpAny _ _ (Builtin.SmallTypes.nextOf (.ref m)>>=_) _ _ _;cases r:xs[n1]? with
 |none =>
  refine wpAny_bind (a7L B (h1.extBut hs₁.extBut D.i1z) (k.extBut hs₁.extBut D.l1z) r λh₂ e hs₂ y=>?_);obtain⟨u,f,g⟩:=y;have hz₂:IsZip h₂ z TI TO .ellipsis:=hs₂ _ _ D.i1z.symm hz₁;have j:e≠z:=λx=>by subst x;rw[hz₂]at f;cases f;simp at g
  refine wpAny_setField_rec hz₂ (by simp) λh₃ _ hs₃=>C h₃ e (λc o p _ q _ x=>hs₃.extBut _ _ p (hs₂ _ _ q (hs₁.extBut _ _ p x))) ⟨u,hs₃.extBut _ _ j f,g⟩
 |some x =>
  have H:ys[n2]?=none:=by rcases l with h|h;rw[r]at h;cases h;exact h
  refine wpAny_bind (a2f (h1.extBut hs₁.extBut D.i1z) (k.extBut hs₁.extBut D.l1z) r λh₂ h1₂ hs₂=>wpAny_pure ?_);have hTO₂:IsPair h₂ TO a b:=hs₂.extBut _ _ D.TOi1 (hs₁.extBut _ _ D.TOz i);refine wpAny_bind (wpAny_seqItems hTO₂ rfl ?_);refine wpAny_bind (wpAny_updateSeq_pair hTO₂ λh₃ hTO₃ hs₃=>?_);refine wpAny_bind (wpAny_letGo (wpAny_pure ?_));refine wpAny_bind (wpAny_bind (wpAny_onRaise ?_));show wpAny _ _ (Builtin.SmallTypes.nextOf (.ref n)>>=_) _ _ _;refine wpAny_bind (a7L B (((h2.extBut hs₁.extBut D.i2z).extBut hs₂.extBut D.i12.symm).extBut hs₃.extBut D.TOi2.symm)
   (((t.extBut hs₁.extBut D.l2z).extBut hs₂.extBut D.l2i1).extBut hs₃.extBut D.l2TO) H λh₄ e hs₄ y=>?_)
  obtain⟨u,f,g⟩:=y;have hz₄:IsZip h₄ z TI TO .ellipsis:=hs₄ _ _ D.i2z.symm (hs₃.extBut _ _ D.TOz.symm (hs₂.extBut _ _ D.i1z.symm hz₁));have j:e≠z:=λx=>by subst x;rw[hz₄]at f;cases f;simp at g
  refine wpAny_setField_rec hz₄ (by simp) λh₅ _ hs₅=>C h₅ e (λc o p F q G x=>hs₅.extBut _ _ p (hs₄ _ _ G (hs₃.extBut _ _ F (hs₂.extBut _ _ q (hs₁.extBut _ _ p x))))) ⟨u,hs₅.extBut _ _ j f,g⟩
noncomputable abbrev zH1(k1:Bool)(h:Heap)(l1:Addr):Heap:=h.push (a1v k1 l1)
noncomputable abbrev zH2(k1 k2:Bool)(h:Heap)(l1 l2:Addr):Heap:=(zH1 k1 h l1).push (a1v k2 l2)
noncomputable abbrev zH3(k1 k2:Bool)(h:Heap)(l1 l2:Addr):Heap:=(zH2 k1 k2 h l1 l2).push {cls:=.type "tuple",data:=.seq #[.ref h.objs.size,.ref (zH1 k1 h l1).objs.size]}
noncomputable abbrev zH4(k1 k2:Bool)(h:Heap)(l1 l2:Addr):Heap:=(zH3 k1 k2 h l1 l2).push {cls:=.type "tuple",data:=.seq #[.none,.none]}
noncomputable abbrev zH5(k1 k2:Bool)(h:Heap)(l1 l2:Addr):Heap:=(zH4 k1 k2 h l1 l2).push {cls:=.type "zip",data:=.fields #[.none,.bool false,.bool false,.ref (zH2 k1 k2 h l1 l2).objs.size,.ref (zH3 k1 k2 h l1 l2).objs.size]}
theorem b2C(l1 l2:Addr)(xs ys:Array Value) :
  Meets (Builtin.«zip.__new__» ⟨[.type "zip",.ref l1,.ref l2],[]⟩) (λ_ R s=>SqAt k1 s.heap l1 xs/\SqAt k2 s.heap l2 ys /\
   R (.ok (.ret (.ref (zH4 k1 k2 s.heap l1 l2).objs.size))) {s with heap:=zH5 k1 k2 s.heap l1 l2}) :=
 .of_wp λprog w A R s h=>by
  obtain⟨hp,g,d,tk,os⟩:=s;obtain⟨f,c,h⟩:=h;have i:=sub_zip;have a:SqAt k1 (Shared.heap ⟨hp,g,d,tk,os⟩) l1 xs:=f;have b:SqAt k2 (Shared.heap ⟨hp.push (a1v k1 l1),g,d,tk,os⟩) l2 ys:=c.at λo e=>Heap.get?_push_of_some _ e
  wp_walk using V1 a,V1 b
  exact⟨_,rfl,h⟩
theorem b0c{l1 l2:Addr}{xs ys:Array Value}{Q:Value->Shared->Prop}(b:SqAt k1 s.heap l1 xs)(a:SqAt k2 s.heap l2 ys)
  (h:∀h',IsZip h' (s.heap.objs.size+4) (s.heap.objs.size+2) (s.heap.objs.size+3) .none->IsPair h' (s.heap.objs.size+2) (.ref s.heap.objs.size) (.ref (s.heap.objs.size+1)) ->
   IsPair h' (s.heap.objs.size+3) .none .none->ItAt k1 h' s.heap.objs.size l1 0->ItAt k2 h' (s.heap.objs.size+1) l2 0->h'.objs.size=s.heap.objs.size+5 ->
   (∀c o,s.heap.get? c=some o->h'.get? c=some o)->Q (.ref (s.heap.objs.size+4)) {s with heap:=h'}) :
  wpAny (model prog w) A (call (.type "zip") [.ref l1,.ref l2]) Q E s:=by
 refine callType_new F.called_zip (by decide) (F.typeCall_zip_2 _ _) (F.newCall_zip_2 _ _) (λobj=>F.args_object_init_3 obj _ _) F.entry_zip_new
  (b2C (k1:=k1) (k2:=k2) l1 l2 xs ys) ⟨b,a,?_⟩
 have z1:(zH1 k1 s.heap l1).objs.size=s.heap.objs.size+1:=Heap.size_push ..;have z2:(zH2 k1 k2 s.heap l1 l2).objs.size=s.heap.objs.size+2:=by rw[Heap.size_push,z1]
 have z3:(zH3 k1 k2 s.heap l1 l2).objs.size=s.heap.objs.size+3:=by rw[Heap.size_push,z2]
 have z4:(zH4 k1 k2 s.heap l1 l2).objs.size=s.heap.objs.size+4:=by rw[Heap.size_push,z3]
 have z5:(zH5 k1 k2 s.heap l1 l2).objs.size=s.heap.objs.size+5:=by rw[Heap.size_push,z4]
 have d:(zH5 k1 k2 s.heap l1 l2).get? (zH4 k1 k2 s.heap l1 l2).objs.size=some _:=Heap.get?_push_size _ rfl;have g:(zH5 k1 k2 s.heap l1 l2).get? (zH3 k1 k2 s.heap l1 l2).objs.size=some _:=Heap.get?_push_of_some _ (Heap.get?_push_size _ rfl);have e:(zH5 k1 k2 s.heap l1 l2).get? (zH2 k1 k2 s.heap l1 l2).objs.size=some _:=Heap.get?_push_of_some _ (Heap.get?_push_of_some _ (Heap.get?_push_size _ rfl));have f:(zH5 k1 k2 s.heap l1 l2).get? (zH1 k1 s.heap l1).objs.size=some (a1v k2 l2):=Heap.get?_push_of_some _ (Heap.get?_push_of_some _ (Heap.get?_push_of_some _ (Heap.get?_push_size _ rfl)));have i:(zH5 k1 k2 s.heap l1 l2).get? s.heap.objs.size=some (a1v k1 l1):=Heap.get?_push_of_some _ (Heap.get?_push_of_some _ (Heap.get?_push_of_some _ (Heap.get?_push_of_some _ (Heap.get?_push_size _ rfl))));show _/\_;rw[z2,z3,z4]at d;rw[z1,z2]at e;rw[z3]at g;rw[z1]at f;rw[z4];refine⟨⟨_,d,rfl⟩,h _ d e g ?_ ?_ z5 λc o x =>
  Heap.get?_push_of_some _ (Heap.get?_push_of_some _ (Heap.get?_push_of_some _ (Heap.get?_push_of_some _ (Heap.get?_push_of_some _ x))))⟩
 .cases k1<;>exact⟨_,i,rfl,rfl⟩
 .cases k2<;>exact⟨_,f,rfl,rfl⟩
end
def SqK(k:Bool)(K:PySem.W.Frag)(H:Hp)(a:Addr)(xs:List V):Prop:=match k with|true=>SqT K H a xs|false=>SqL K H a xs
theorem Inv.sqk{X:Cx}{pins:List (Addr×Obj)}{σ:St}{H:Hp}{s:Shared}{k:Bool}{a:Addr}{xs:List V}(I:Inv X pins σ H s)(h:SqK k X.K H a xs):∃its:List Value,Vals xs its/\SqAt k s.heap a its.toArray/\xs.length<=sizeLine:=by
 cases k
 .obtain⟨its,r,p,z⟩:=I.list h;exact⟨its,r,p.isList,z⟩
 .obtain⟨its,r,p,z⟩:=I.tuple h;exact⟨its,r,p,z⟩
theorem Inv.sqk_inj{X:Cx}{pins:List (Addr×Obj)}{σ:St}{H:Hp}{s:Shared}{k:Bool}{a:Addr}{xs ys:List V}(I:Inv X pins σ H s)(h:SqK k X.K H a xs)(h':SqK k X.K H a ys):xs=ys:=by
 cases k
 .exact I.list_inj h h'
 .exact I.tuple_inj h h'
noncomputable def Itz(K:PySem.W.Frag)(k1 k2:Bool)(a b:Addr):It :=
 ⟨λi H=>∃xs ys x y,SqK k1 K H a xs/\SqK k2 K H b ys/\xs[i]?=some x/\ys[i]?=some y,
  λi H v H'=>∃p x y,v=.ref p/\H p=none/\H'=upd H p (.tup [x,y])/\(∀xs,SqK k1 K H a xs->xs[i]?=some x)/\∀ys,SqK k2 K H b ys->ys[i]?=some y,
  λi H=>∃xs ys,SqK k1 K H a xs/\SqK k2 K H b ys/\(xs.length<=i∨ys.length<=i)⟩
structure ZTurn(k1 k2:Bool)(z TI TO i1 i2 a b:Addr)(i:Nat)(f0:Value)(h:Heap):Prop where
 zz:IsZip h z TI TO f0
 ti:IsPair h TI (.ref i1) (.ref i2)
 to:∃u v,IsPair h TO u v
 t1:ItAt k1 h i1 a i
 t2:ItAt k2 h i2 b i
structure ZNe(z TI TO i1 i2:Addr):Prop where
 TIz:TI≠z
 TOz:TO≠z
 i1z:i1≠z
 i2z:i2≠z
 TITO:TI≠TO
 TIi1:TI≠i1
 TIi2:TI≠i2
 TOi1:TO≠i1
 TOi2:TO≠i2
 i12:i1≠i2
section
variable {X:Cx}{pins:List (Addr×Obj)}{σ:St}{H:Hp}{s:Shared}
theorem Inv.turnedT{h':Heap}{ch:List Addr}{p:Addr}{o:HO}(I:Inv X pins σ H s)(hf:∀b∈ch,a1h X pins H b)(hp:s.heap.objs.size=p)(k:∀b o,b∉ch->s.heap.get? b=some o->h'.get? b=some o)
  (new:ObjOk X.prog X.w (upd H p o) h' p o):Inv X pins σ (upd H p o) {s with heap:=h'}:=by
 have g:H p=none:=I.hok.fresh (Nat.le_of_eq hp);have d:∀b u,H b=some u->b∉ch:=λb u e z=>by rw[(hf b z).1]at e;cases e
 have a:∀b u,H b=some u->b≠p:=λb u e z=>by rw[z,g]at e;cases e
 have f:∀b u,s.heap.get? b=some u->b≠p:=λb u e=>by
  rw[<-hp];exact Nat.ne_of_lt (Heap.lt_size e)
 refine I.step (g':=s.gens) (d':=s.drawn) (t':=s.toks) (ch:=ch) (λb hb=>?_) (λb o _ _ hc e _=>k b o hc e) (λb o _ _ hc e _=>⟨o.slots,k b o hc e⟩) (λb u _ e n=>by rw[A2 (f b u e)];exact n)
  (λb o hc e=>⟨o,k b o hc e⟩) (λb xs e=>by rw[A2 (a b _ e)];exact e) (λb u v e=>by rw[A2 (a b _ e)];exact e) (λb ps e=>⟨#[],by rw[A2 (a b _ e),e];simp⟩) (λm h=>?_) (λb u e=>?_) I.bare
 .obtain⟨_,h1,_,h3,h4,h5⟩:=hf b hb;exact⟨h3,h1,h4,h5⟩
 .obtain⟨o,es,ep,ho,r⟩:=h;exact⟨o,es,ep,k _ o (λz=>(hf _ z).2.1 rfl) ho,r⟩
 .by_cases hb:b=p
  .subst hb;rw[A0]at e;cases e;exact new
  .rw[A2 hb]at e;refine(I.hok b u e).stay (λc v hc q=>k c v ?_ q) (λc q=>by rw[A2 (a c _ q)];exact q) λc xs q=>by rw[A2 (a c _ q)];exact q
   rcases hc with z|z
   .rw[z];exact d b u e
   .exact d c _ z
theorem Inv.turnedL{h':Heap}{ch:List Addr}(I:Inv X pins σ H s)(hf:∀b∈ch,a1h X pins H b)(k:∀b o,b∉ch->s.heap.get? b=some o->h'.get? b=some o):Inv X pins σ H {s with heap:=h'}:=by
 have a:∀b u,H b=some u->b∉ch:=λb u e z=>by rw[(hf b z).1]at e;cases e
 refine I.step (g':=s.gens) (d':=s.drawn) (t':=s.toks) (ch:=ch) (λb hb=>?_) (λb o _ _ hc e _=>k b o hc e) (λb o _ _ hc e _=>⟨o.slots,k b o hc e⟩) (λb u _ e n=>n)
  (λb o hc e=>⟨o,k b o hc e⟩) (λb xs e=>e) (λb u v e=>e) (λb ps e=>⟨#[],by rw[e];simp⟩) (λm d=>?_) (λb u e=>?_) I.bare
 .obtain⟨_,h1,_,h3,h4,h5⟩:=hf b hb;exact⟨h3,h1,h4,h5⟩
 .obtain⟨o,es,ep,ho,r⟩:=d;exact⟨o,es,ep,k _ o (λz=>(hf _ z).2.1 rfl) ho,r⟩
 .refine(I.hok b u e).stay (λc v hc q=>k c v ?_ q) (λc q=>q) λc xs q=>q;rcases hc with z|z
  .rw[z];exact a b u e
  .exact a c _ z
theorem Inv.apart{k:Bool}{a:Addr}{xs:List V}{b:Addr}{o:Obj}(I:Inv X pins σ H s)(hs:SqK k X.K H a xs)(hf:a1h X pins H b):a≠b:=by
 rintro rfl;have d:∀{u:HO},Rd H a u->False:=λr=>by
  rcases r with r|⟨o,r⟩<;>rw[hf.1]at r<;>cases r
 have c:∀{f:Obj},X.K.lookup a=some f->False:=λe=>by
  have g:=I.mod.kin a _ e;rcases hf.2.2.2.1 with z|z
  .exact I.ok.noex _ _ g z
  .exact absurd (Nat.lt_of_lt_of_le (Heap.lt_size (I.ok.bs _ _ g).1) z) (Nat.lt_irrefl _)
 cases k
 .rcases hs with r|⟨f,_,_,e,_⟩
  .exact d r
  .exact c e
 .rcases hs with r|⟨f,_,_,e,_⟩
  .exact d r
  .exact c e
end
theorem b0i{P:Program}{w:World}{K:PySem.W.Frag}{es:List Expr}{kt:Nat}{tp:Pos}{k1 k2:Bool}{a b z TI TO g j:Addr}(D:ZNe z TI TO g j) :
  Turn P w K (.Tuple es kt tp) (Itz K k1 k2 a b) [z,TI,TO,g,j] z (λi h=>ZTurn k1 k2 z TI TO g j a b i .none h) where
 mem:=by simp
 obj:=λi h st c hc=>by
  simp only[List.mem_cons,List.not_mem_nil,or_false]at hc;rcases hc with rfl|rfl|rfl|rfl|rfl
  .exact⟨_,st.zz,λv z=>by cases z⟩
  .exact⟨_,st.ti,λv z=>by cases z⟩
  .obtain⟨u,v,q⟩:=st.to;exact⟨_,q,λv z=>by cases z⟩
  .obtain⟨o,e,d⟩:=st.t1.get;exact⟨o,e,λv z=>by rw[d]at z;cases z⟩
  .obtain⟨o,e,d⟩:=st.t2.get;exact⟨o,e,λv z=>by rw[d]at z;cases z⟩
 keep:=λi h h' st k=>⟨k z (by simp) _ st.zz,k TI (by simp) _ st.ti,let ⟨u,v,q⟩:=st.to;⟨u,v,k TO (by simp) _ q⟩,st.t1.at λo e=>k g (by simp) o e,st.t2.at λo e=>k j (by simp) o e⟩
 item:=by
  intro X Y hw U hc i pins s σ H E I hf st L;subst Y hw U;obtain⟨xs,ys,x,y,l,m,hx,hy⟩:=L;obtain⟨us,R,V,zu⟩:=I.sqk l;obtain⟨ws,t,N,zw⟩:=I.sqk m;obtain⟨u,hu,M⟩:=R.get hx;obtain⟨v,hv,G⟩:=t.get hy;have f:∀c∈[z,TI,TO,g,j],a≠c/\b≠c:=λc hc=>⟨I.apart (o:=default) l (hf c hc),I.apart (o:=default) m (hf c hc)⟩;have O:ZipApart z TI TO g j a b:=⟨D.TIz,D.TOz,D.i1z,D.i2z,D.TITO,D.TIi1,D.TIi2,D.TOi1,D.TOi2,D.i12,(f z (by simp)).1,(f TO (by simp)).1,(f g (by simp)).1,(f j (by simp)).1,(f z (by simp)).2,(f TO (by simp)).2,(f g (by simp)).2,(f j (by simp)).2⟩;obtain⟨ua,ub,p⟩:=st.to;have C:s.TypeIs (.ref z) "zip":=⟨_,st.zz,rfl⟩;unfold pyNext;refine wpAny_bind (wpAny_attempt (wpAny_callSpecial?_slot (name:=Str.ofString "__next__") C F.slot_zip_next
   (wpAny_call_entry F.slot_zip_next C F.entry_zip_next
    (b0a O st.zz st.ti p st.t1 st.t2 V N (x:=u) (y:=v) (by simpa using hu) (by simpa using hv) λh' a1 a2 a3 a4 a5 a6 a7=>wpAny_pure ?_) (F.args_zip_next_1 _))))
  refine⟨_,rfl,?_⟩;refine wpAny_letOwnedTupleGo_zip (s:={s with heap:=h'}) a1 λh2 S n=>?_;have ne:∀c∈[z,TI,TO,g,j],c≠s.heap.objs.size:=λc hc e=>by
   have:∃o,s.heap.get? c=some o:=by
    simp only[List.mem_cons,List.not_mem_nil,or_false]at hc;rcases hc with rfl|rfl|rfl|rfl|rfl
    .exact⟨_,st.zz⟩
    .exact⟨_,st.ti⟩
    .exact⟨_,p⟩
    .obtain⟨o,e,d⟩:=st.t1.get;exact⟨o,e⟩
    .obtain⟨o,e,d⟩:=st.t2.get;exact⟨o,e⟩
   obtain⟨o,q⟩:=this;exact absurd (Heap.lt_size q) (by rw[e];exact Nat.lt_irrefl _)
  have r:H s.heap.objs.size=none:=I.hok.fresh (Nat.le_refl _);have Z:IsPair h2 s.heap.objs.size u v:=n.extBut _ _ (ne z (by simp)).symm a5;have kk:∀c o,c∉[z,TI,TO,g,j]->s.heap.get? c=some o->h2.get? c=some o:=λc o hc e=>by
   simp only[List.mem_cons,List.not_mem_nil,or_false,not_or]at hc;exact n.extBut _ _ hc.1 (a7 c o hc.1 hc.2.2.1 hc.2.2.2.1 hc.2.2.2.2 e)
  have I2:Inv X pins σ (upd H s.heap.objs.size (.tup [x,y])) {s with heap:=h2} :=
   I.turnedT (ch:=[z,TI,TO,g,j]) hf rfl kk ⟨by show 2<=sizeLine;decide,[u,v],.cons M (.cons G .nil),⟨_,Z,rfl,0,rfl⟩⟩
  refine⟨.ref s.heap.objs.size,_,I2,rfl,⟨_,x,y,rfl,r,rfl,λzs J=>?_,λzs J=>?_⟩,⟨S,n.extBut _ _ D.TIz (a7 _ _ D.TIz D.TITO D.TIi1 D.TIi2 st.ti),⟨u,v,n.extBut _ _ D.TOz a2⟩,a3.extBut n.extBut D.i1z,a4.extBut n.extBut D.i2z⟩,λc hc=>?_⟩
  .rw[I.sqk_inj J l];exact hx
  .rw[I.sqk_inj J m];exact hy
  .rw[A2 (ne c hc)];exact(hf c hc).1
 done:=by
  intro X Y hw U hc i pins s σ H E I hf st L;subst Y hw U;obtain⟨xs,ys,l,m,B⟩:=L;obtain⟨us,R,V,zu⟩:=I.sqk l;obtain⟨ws,t,N,zw⟩:=I.sqk m;have l1:=R.length;have l2:=t.length;have f:∀c∈[z,TI,TO,g,j],a≠c/\b≠c:=λc hc=>⟨I.apart (o:=default) l (hf c hc),I.apart (o:=default) m (hf c hc)⟩;have O:ZipApart z TI TO g j a b:=⟨D.TIz,D.TOz,D.i1z,D.i2z,D.TITO,D.TIi1,D.TIi2,D.TOi1,D.TOi2,D.i12,(f z (by simp)).1,(f TO (by simp)).1,(f g (by simp)).1,(f j (by simp)).1,(f z (by simp)).2,(f TO (by simp)).2,(f g (by simp)).2,(f j (by simp)).2⟩;obtain⟨ua,ub,p⟩:=st.to;have C:s.TypeIs (.ref z) "zip":=⟨_,st.zz,rfl⟩;unfold pyNext;refine wpAny_bind (wpAny_attempt (wpAny_callSpecial?_slot (name:=Str.ofString "__next__") C F.slot_zip_next
   (wpAny_call_entry F.slot_zip_next C F.entry_zip_next (b2E (I.ok.hd hc) O st.zz st.ti p st.t1 st.t2 V N ?_ λh' e hk he=>?_) (F.args_zip_next_1 _))))
  .rcases B with q|q
   .exact .inl (by simp;omega)
   .exact .inr (by simp;omega)
  .obtain⟨o,ho,hc⟩:=he;refine wpAny_bind (wpAny_isInstance (T:="StopIteration") (b:=true) ⟨o,ho,hc⟩ isSubtype_stop ?_);refine wpAny_pure ⟨rfl,I.turnedL (ch:=[z,TI,TO,g,j]) hf λc o hc e=>?_⟩;simp only[List.mem_cons,List.not_mem_nil,or_false,not_or]at hc;exact hk c o hc.1 hc.2.2.1 hc.2.2.2.1 hc.2.2.2.2 e
 self:=λA i s Q E st h=>wpAny_pyIter_zip st.zz h
theorem nne{a b:Nat}(h:a≠b):@Ne Addr a b:=h
theorem zne(n:Nat):ZNe (n+4) (n+2) (n+3) n (n+1) :=
 ⟨nne (by omega),nne (by omega),nne (by omega),nne (by omega),nne (by omega),nne (by omega),nne (by omega),nne (by omega),nne (by omega),nne (by omega)⟩
def b6z(K:PySem.W.Frag)(ta:TA):TI:=λσ H R=>ta σ H λvs H1=>∃k1 k2 a b,vs=[.ref a,.ref b]/\(∃xs,SqK k1 K H1 a xs)/\(∃ys,SqK k2 K H1 b ys)/\R (Itz K k1 k2 a b) H1
section
variable {X:Cx}
theorem b5C{es:List Expr}{t:Nat}{j:Pos}{a b:Expr}{ta:TA}{p pos:Pos}(l:Gl X "zip")(k:X.mg "zip"=none)(ha:PA X [a,b] ta)(i:bootBuiltins "zip"=some (.type "zip"))
  (hs:starEach [a,b] X.env=[(false,eval a X.env),(false,eval b X.env)]:=by rfl) (g:starEach [b] X.env=[(false,eval b X.env)]:=by rfl) :
  PI X (.Tuple es t j) (.Call (.Name "zip" p) [a,b] [] pos) (b6z X.K ta):=by
 intro pins s σ H R I h;refine Call_ (a2E I l k i (PyProof.Rows.callWith_type1 (thn (ha pos pins s σ H _ I h) λus s1 ⟨vs,H1,d,x,v⟩=>?_) (by rw[hs,g]) (by rw[g];rfl)));obtain⟨k1,k2,l1,l2,e,⟨xs,m⟩,⟨ys,w⟩,q⟩:=v;subst e;cases x with
 |cons r rr =>
  cases rr with
  |cons r' rr =>
   cases rr;cases r;cases r';obtain⟨us,B,u,y⟩:=d.sqk m;obtain⟨A,o,n,z⟩:=d.sqk w;refine b0c u n λh' z1 z2 z3 z4 z5 z6 z7=>?_;refine wpAny_pyIter_zip (s:={s1 with heap:=h'}) z1 ?_;refine⟨s1.heap.objs.size+4,[s1.heap.objs.size+4,s1.heap.objs.size+2,s1.heap.objs.size+3,s1.heap.objs.size,s1.heap.objs.size+1],_,_,H1,rfl,d.kept (t':=s1.toks) z7,b0i (zne _),
    ⟨z1,z2,⟨_,_,z3⟩,z4,z5⟩,λc hc=>?_,q⟩
   have f:s1.heap.objs.size<=c:=by
    simp only[List.mem_cons,List.not_mem_nil,or_false]at hc;rcases hc with rfl|rfl|rfl|rfl|rfl
    .exact Nat.le_add_right _ _
    .exact Nat.le_add_right _ _
    .exact Nat.le_add_right _ _
    .exact Nat.le_refl _
    .exact Nat.le_add_right _ _
   exact d.fpOk f (d.hok.fresh f)
end
theorem a1Z{prog:Program}{w:World}{A:Around}{k:Bool}{I l:Addr}{items:Array Value}(b:A.handled=none)(a:l≠I) :
  Walks prog w A I [I,l] [I] items.size (λi v=>items[i]?=some v) (λi h=>ItAt k h I l i/\SqAt k h l items):=by
 cases k
 .exact Walks.list b I l a items
 .exact Walks.tuple b I l a items
noncomputable def trV:V->Bool
 |.bl b=>b
 |.int i=>i != 0
 |.non=>false
 |_=>true
noncomputable def a6e:V->Bool
 |.bl _=>true
 |.int _=>true
 |.non=>true
 |_=>false
theorem a1k{prog:Program}{w:World}{A:Around}{E:Value->Shared->Prop}{s:Shared}{x:V}{v:Value}{Q:Bool->Shared->Prop}(r:RelV x v)(f:a6e x=true)(h:Q (trV x) s):wpAny (model prog w) A (truthy v) Q E s:=by
 cases x with
 |non=>cases r;exact truthy_none h
 |bl b=>cases r;exact wpAny_truthy_bool h
 |int i=>obtain⟨t,rfl⟩:=r;exact PySem.P.truthy_int h
 |_=>cases f
theorem a3G{α:Type}(xs:List α)(p:α->Bool)(d:α):(List.range xs.length).all (λi=>p (xs.getD i d))=xs.all p:=by
 rw[Bool.eq_iff_iff,List.all_eq_true,List.all_eq_true];constructor
 .intro h x hx;obtain⟨i,hi,rfl⟩:=List.mem_iff_getElem.mp hx;have:=h i (List.mem_range.mpr hi);simpa[List.getD_eq_getElem?_getD,hi]using this
 .intro h i hi;have a:=List.mem_range.mp hi;simpa[List.getD_eq_getElem?_getD,a]using h xs[i] (List.getElem_mem a)
theorem a8W{α:Type}(xs:List α)(p:α->Bool)(d:α):(List.range xs.length).any (λi=>p (xs.getD i d))=xs.any p:=by
 have:=a3G xs (λx=>!p x) d;rw[<-List.not_any_eq_all_not,<-List.not_any_eq_all_not]at this;simpa using this
theorem a8b(xs:List Int):∀n,n<=xs.length->preSum (λi=>xs.getD i 0) n=(xs.take n).sum
 |0,_=>by simp[preSum]
 |n+1,h=>by
  have this:xs[n]?=some xs[n]:=List.getElem?_eq_getElem (by omega);have e:xs.take (n+1)=xs.take n++[xs[n]]:=by rw[List.take_add_one,this];rfl
  rw[preSum,a8b xs n (by omega),e,List.sum_append];simp[List.getD_eq_getElem?_getD,this]
section
variable {X:Cx}
abbrev RL:=List V->Hp->VK->Prop
def b5u(K:PySem.W.Frag):RL:=λxs H Q=>∃(k:Bool) (p:Addr) (ys:List V),xs=[.ref p]/\SqK k K H p ys/\ys.all a6e=true/\Q (.bl (ys.all trV)) H
def b5t(K:PySem.W.Frag):RL:=λxs H Q=>∃(k:Bool) (p:Addr) (ys:List V),xs=[.ref p]/\SqK k K H p ys/\ys.all a6e=true/\Q (.bl (ys.any trV)) H
def b5n(K:PySem.W.Frag):RL:=λxs H Q=>∃(k:Bool) (p:Addr) (ns:List Int),xs=[.ref p]/\SqK k K H p (ns.map V.int)/\Q (.int ns.sum) H
theorem a7e{k:Bool}{l:Addr}{items:Array Value}{s:Shared}(h:SqAt k s.heap l items):ItAt k (s.heap.push (a1v k l)) s.heap.objs.size l 0/\SqAt k (s.heap.push (a1v k l)) l items:=by
 refine⟨?_,h.at λo e=>Heap.get?_push_of_some _ e⟩;cases k<;>exact⟨_,Heap.get?_push_size _ rfl,rfl,rfl⟩
theorem a2F{k:Bool}{l:Addr}{items:Array Value}{s:Shared}(h:SqAt k s.heap l items):l≠s.heap.objs.size:=by
 obtain⟨o,e⟩:=h.get;exact Nat.ne_of_lt (Heap.lt_size e)
theorem a2I{s:Shared}{h':Heap}{c:Obj}(a:∀b o,b∉[s.heap.objs.size]->(s.heap.push c).get? b=some o->h'.get? b=some o):∀b o,s.heap.get? b=some o->h'.get? b=some o:=λb o e =>
 a b o (λz=>by have:=Heap.lt_size e;rw[List.mem_singleton.mp z]at this;exact Nat.lt_irrefl _ this) (Heap.get?_push_of_some _ e)
theorem b2s(hc:X.calm=true):D0 X (.builtin "all") (b5u X.K):=by
 intro pins s σ H xs us Q I g h;obtain⟨k,p,ys,rfl,hs,hf,q⟩:=h;obtain⟨u,rfl,o⟩:=g.one;cases o;obtain⟨its,ri,c,t⟩:=I.sqk hs;have n:X.A.in1.handled=none:=I.ok.hd hc;refine call_all_walk (V1 c ?_);refine⟨s.heap.objs.size,_,_,_,_,_,λi=>trV (ys.getD i .non),rfl,a1Z (k:=k) (l:=p) (items:=its.toArray) n (a2F c),a7e c,?_,λh' tk j=>?_⟩
 .intro i v s' Q' E' hv hq;have a:its[i]?=some v:=by simpa using hv
  obtain⟨hi,_⟩:=List.getElem?_eq_some_iff.mp a;have b:i<ys.length:=by rw[ri.length];exact hi
  have f:ys[i]?=some ys[i]:=List.getElem?_eq_getElem b;obtain⟨r,d,m⟩:=ri.get f;rw[a]at d;cases d;refine a1k m (List.all_eq_true.mp hf _ (List.getElem_mem b)) ?_;simpa[List.getD_eq_getElem?_getD,f]using hq
 .have e:(List.range its.toArray.size).all (λi=>trV (ys.getD i .non))=ys.all trV:=by
   rw[List.size_toArray,<-ri.length];exact a3G ys trV .non
  rw[e];exact⟨.bl _,H,I.kept (a2I j),rfl,q⟩
theorem b2r(hc:X.calm=true):D0 X (.builtin "any") (b5t X.K):=by
 intro pins s σ H xs us Q I g h;obtain⟨k,p,ys,rfl,hs,hf,q⟩:=h;obtain⟨u,rfl,o⟩:=g.one;cases o;obtain⟨its,ri,c,t⟩:=I.sqk hs;have n:X.A.in1.handled=none:=I.ok.hd hc;refine call_any_walk (V1 c ?_);refine⟨s.heap.objs.size,_,_,_,_,_,λi=>trV (ys.getD i .non),rfl,a1Z (k:=k) (l:=p) (items:=its.toArray) n (a2F c),a7e c,?_,λh' tk j=>?_⟩
 .intro i v s' Q' E' hv hq;have a:its[i]?=some v:=by simpa using hv
  obtain⟨hi,_⟩:=List.getElem?_eq_some_iff.mp a;have b:i<ys.length:=by rw[ri.length];exact hi
  have f:ys[i]?=some ys[i]:=List.getElem?_eq_getElem b;obtain⟨r,d,m⟩:=ri.get f;rw[a]at d;cases d;refine a1k m (List.all_eq_true.mp hf _ (List.getElem_mem b)) ?_;simpa[List.getD_eq_getElem?_getD,f]using hq
 .have e:(List.range its.toArray.size).any (λi=>trV (ys.getD i .non))=ys.any trV:=by
   rw[List.size_toArray,<-ri.length];exact a8W ys trV .non
  rw[e];exact⟨.bl _,H,I.kept (a2I j),rfl,q⟩
theorem b2p(hc:X.calm=true):D0 X (.builtin "sum") (b5n X.K):=by
 intro pins s σ H xs us Q I g h;obtain⟨k,p,ns,rfl,hs,q⟩:=h;obtain⟨u,rfl,w⟩:=g.one;cases w;obtain⟨its,ri,c,y⟩:=I.sqk hs;have hl:=ri.length;rw[List.length_map]at hl;have r:X.A.in1.handled=none:=I.ok.hd hc;refine call_sum_walkG (V1 c ?_);refine⟨s.heap.objs.size,_,_,_,_,_,λi=>ns.getD i 0,rfl,a1Z (k:=k) (l:=p) (items:=its.toArray) r (a2F c),a7e c,λb hb=>?_,?_,λh' tk t' j=>?_⟩
 .rw[Heap.size_push];obtain⟨o,e⟩:=c.get;have d:=Heap.lt_size e;simp only[List.mem_cons,List.not_mem_nil,or_false]at hb;rcases hb with rfl|rfl
  .exact Nat.lt_succ_self _
  .exact Nat.lt_succ_of_lt d
 .intro i v hv;have a:its[i]?=some v:=by simpa using hv
  obtain⟨hi,_⟩:=List.getElem?_eq_some_iff.mp a;have m:(ns.map V.int)[i]?=some (.int ns[i]):=by rw[List.getElem?_map,List.getElem?_eq_getElem (by omega)];rfl
  obtain⟨x,f,t,n⟩:=ri.get m;rw[a]at f;cases f;exact⟨t,by rw[n];show _=Value.int (ns.getD i 0) t;rw[List.getD_eq_getElem?_getD,List.getElem?_eq_getElem (by omega)];rfl⟩
 .have e:preSum (λi=>ns.getD i 0) its.toArray.size=ns.sum:=by
   rw[List.size_toArray,<-hl,a8b ns _ (Nat.le_refl _),List.take_length]
  rw[e];exact⟨.int ns.sum,H,I.kept (a2I j),⟨t',rfl⟩,q⟩
def b5r(K:PySem.W.Frag):RL:=λxs H Q=>∃x n t b,xs=[x,.ty n]/\TyOf K H x t/\PySem.W.kitOne K t (.type n)=some b/\Q (.bl b) H
theorem b2q:D0 X (.builtin "isinstance") (b5r X.K):=by
 intro pins s σ H xs us Q I c h;obtain⟨x,n,t,b,rfl,ty,e,q⟩:=h;obtain⟨u,v,rfl,d,a⟩:=c.two;cases a;exact a9w I d ty e λtk=>⟨.bl b,H,I.tok tk,rfl,q⟩
def a7W(x:V)(b:Bool):Bool:=decide (x=.bl b)
theorem a6a{M:Model}{A:Around}{E:Value->Shared->Prop}{s:Shared}{x:V}{v:Value}{b:Bool}{Q:Bool->Shared->Prop}(r:RelV x v)(h:Q (a7W x b) s):wpAny M A (isSame v (.bool b)) Q E s:=by
 unfold isSame;cases x with
 |non=>cases r;exact wpAny_pure h
 |bl c=>cases r;exact wpAny_pure (by
   have e:a7W (.bl c) b=(Value.bool c==Value.bool b):=by cases c<;>cases b<;>rfl
   rw[e]at h;exact h)
 |int i=>obtain⟨t,rfl⟩:=r;exact wpAny_pure h
 |str y=>obtain⟨t,rfl⟩:=r;exact wpAny_pure h
 |byt y=>obtain⟨t,rfl⟩:=r;exact wpAny_pure h
 |flt y=>obtain⟨t,rfl⟩:=r;exact wpAny_pure h
 |ref p=>cases r;exact wpAny_pure h
 |ty n=>cases r;exact wpAny_pure h
theorem a9h{b:Bool}:OpR X (compareOp .IsNot) (λx y H Q=>y=.bl b/\Q (.bl (!a7W x b)) H):=by
 intro pins s σ H x y v u Q I a c h;obtain⟨rfl,q⟩:=h;cases c;unfold compareOp;exact wpAny_bind (a6a a (wpAny_pure ⟨.bl _,H,I,rfl,q⟩))
end
theorem b2w:bootBuiltins "len"=some (.builtin "len"):=boot_len
theorem b6I:bootBuiltins "zip"=some (.type "zip"):=by kernel_rfl
theorem b6N:bootBuiltins "all"=some (.builtin "all"):=by kernel_rfl
theorem b6M:bootBuiltins "any"=some (.builtin "any"):=by kernel_rfl
theorem b6J:bootBuiltins "sum"=some (.builtin "sum"):=by kernel_rfl
theorem b6L:bootBuiltins "max"=some (.builtin "max"):=by kernel_rfl
theorem a3q:bootBuiltins "isinstance"=some (.builtin "isinstance"):=by kernel_rfl
theorem a1f:bootBuiltins "sorted"=some (.builtin "sorted"):=by kernel_rfl
theorem a3c:bootBuiltins "tuple"=some (.type "tuple"):=by kernel_rfl
theorem b4t:bootBuiltins "list"=some (.type "list"):=by kernel_rfl
theorem b2x:bootBuiltins "int"=some (.type "int"):=by kernel_rfl
theorem b4v:bootBuiltins "bool"=some (.type "bool"):=by kernel_rfl
theorem b6K:bootBuiltins "set"=some (.type "set"):=by kernel_rfl
theorem b4u:bootBuiltins "dict"=some (.type "dict"):=by kernel_rfl
theorem a0C{src:List (Option Nat)}{g:TG}{f:TT}{te:TE}{σ:St}{Q:VK}{J:It}{H1:Hp}(n:Nat)(a:Nat->List V->Hp->Prop)(h0:a 0 [] H1)
  (hs:∀i ys H,i<n->a i ys H->J.go i H/\ys.length<sizeLine/\∀x H',J.yld i H x H'->g x (B1 src σ) H' λσ2 H2=>Sub (B1 src σ) σ2/\f σ2 H2 λb d=>if b=true then te σ2 d λv j=>a (i+1) (ys++[v]) j else a (i+1) ys d)
  (hd:∀ys H,a n ys H->J.stop n H/\ys.length<=sizeLine/\∀p,H p=none->Q (.ref p) (upd H p (.lst ys))):E5 src g f te σ Q J H1:=by
 refine⟨λi m ys H=>m=n-i/\i<=n/\a i ys H,⟨n,by omega,Nat.zero_le _,h0⟩,?_⟩;rintro i m ys H ⟨rfl,hi,p⟩;by_cases c:i<n
 .obtain⟨q1,q2,q3⟩:=hs i ys H c p;exact .inr ⟨q1,q2,a (i+1),λzs H' h=>⟨n-(i+1),by omega,rfl,c,h⟩,q3⟩
 .have e:i=n:=by omega
  subst e;exact .inl (hd ys H p)
theorem a7m{src:List (Option Nat)}{g:TG}{d:TT}{te:TE}{σ:St}{Q:VK}{lo:Int}{n:Nat}{H1:Hp}(f:n<=sizeLine)(a:Nat->List V->Hp->Prop)(h0:a 0 [] H1)
  (hl:∀i ys H,a i ys H->ys.length<=i)
  (hs:∀i ys H,i<n->a i ys H->g (.int (lo+i)) (B1 src σ) H λσ2 H2=>Sub (B1 src σ) σ2/\d σ2 H2 λb c=>if b=true then te σ2 c λv h=>a (i+1) (ys++[v]) h else a (i+1) ys c)
  (hd:∀ys H,a n ys H->∀p,H p=none->Q (.ref p) (upd H p (.lst ys))):E5 src g d te σ Q (Itr lo n) H1 :=
 a0C n a h0 (λi ys H hi p=>⟨hi,by have:=hl i ys H p;omega,λx H' y=>by obtain⟨e,y⟩:=y;subst e y;exact hs i ys _ hi p⟩)
  λys H p=>⟨Nat.le_refl _,Nat.le_trans (hl n ys H p) f,hd ys H p⟩
theorem R5{K:PySem.W.Frag}{src:List (Option Nat)}{g:TG}{j:TT}{te:TE}{σ:St}{Q:VK}{a:Addr}{xs:List V}{H1:Hp}(m:xs.length<=sizeLine)(c:Nat->List V->Hp->Prop)(h0:c 0 [] H1)
  (f:∀i ys H,i<=xs.length->c i ys H->SqL K H a xs/\ys.length<=i)
  (hs:∀i x ys H,xs[i]?=some x->c i ys H->g x (B1 src σ) H λσ2 H2=>Sub (B1 src σ) σ2/\j σ2 H2 λb h=>if b=true then te σ2 h λv l=>c (i+1) (ys++[v]) l else c (i+1) ys h)
  (hd:∀ys H,c xs.length ys H->∀p,H p=none->Q (.ref p) (upd H p (.lst ys))):E5 src g j te σ Q (Itl K a) H1 :=
 a0C xs.length c h0 (λi ys H hi p=>by
   obtain⟨d,k⟩:=f i ys H (Nat.le_of_lt hi) p;refine⟨⟨xs,xs[i],d,List.getElem?_eq_getElem hi⟩,by omega,λx H' y=>?_⟩;obtain⟨e,y⟩:=y;subst e;exact hs i x ys _ (y xs d) p)
  λys H p=>by
   obtain⟨d,k⟩:=f _ ys H (Nat.le_refl _) p;exact⟨⟨xs,d,Nat.le_refl _⟩,by omega,hd ys H p⟩
theorem R1{K:PySem.W.Frag}{src:List (Option Nat)}{g:TG}{j:TT}{te:TE}{σ:St}{Q:VK}{a:Addr}{xs:List V}{H1:Hp}(m:xs.length<=sizeLine)(c:Nat->List V->Hp->Prop)(h0:c 0 [] H1)
  (f:∀i ys H,i<=xs.length->c i ys H->SqT K H a xs/\ys.length<=i)
  (hs:∀i x ys H,xs[i]?=some x->c i ys H->g x (B1 src σ) H λσ2 H2=>Sub (B1 src σ) σ2/\j σ2 H2 λb h=>if b=true then te σ2 h λv l=>c (i+1) (ys++[v]) l else c (i+1) ys h)
  (hd:∀ys H,c xs.length ys H->∀p,H p=none->Q (.ref p) (upd H p (.lst ys))):E5 src g j te σ Q (Itt K a) H1 :=
 a0C xs.length c h0 (λi ys H hi p=>by
   obtain⟨d,k⟩:=f i ys H (Nat.le_of_lt hi) p;refine⟨⟨xs,xs[i],d,List.getElem?_eq_getElem hi⟩,by omega,λx H' y=>?_⟩;obtain⟨e,y⟩:=y;subst e;exact hs i x ys _ (y xs d) p)
  λys H p=>by
   obtain⟨d,k⟩:=f _ ys H (Nat.le_refl _) p;exact⟨⟨xs,d,Nat.le_refl _⟩,by omega,hd ys H p⟩
theorem a0B{K:PySem.W.Frag}{src:List (Option Nat)}{g:TG}{m:TT}{te:TE}{σ:St}{Q:VK}{k1 k2:Bool}{a b:Addr}{xs zs:List V}{H1:Hp}(B:xs.length<=sizeLine)(c:Nat->List V->Hp->Prop)(h0:c 0 [] H1)
  (k:∀i ys H,i<=xs.length->i<=zs.length->c i ys H->SqK k1 K H a xs/\SqK k2 K H b zs/\ys.length<=i)
  (hs:∀i x z ys H p,xs[i]?=some x->zs[i]?=some z->c i ys H->H p=none->g (.ref p) (B1 src σ) (upd H p (.tup [x,z])) λσ2 H2=>Sub (B1 src σ) σ2/\m σ2 H2 λb l=>if b=true then te σ2 l λv A=>c (i+1) (ys++[v]) A else c (i+1) ys l)
  (hd:∀ys H,c (min xs.length zs.length) ys H->∀p,H p=none->Q (.ref p) (upd H p (.lst ys))):E5 src g m te σ Q (Itz K k1 k2 a b) H1 :=
 a0C (min xs.length zs.length) c h0 (λi ys H hi p=>by
   have h:i<xs.length:=by omega
   have j:i<zs.length:=by omega
   obtain⟨f,d,t⟩:=k i ys H (by omega) (by omega) p;refine⟨⟨xs,zs,xs[i],zs[i],f,d,List.getElem?_eq_getElem h,List.getElem?_eq_getElem j⟩,by omega,λx H' y=>?_⟩;obtain⟨q,w,u,e,s,o,r,n⟩:=y;subst e o;exact hs i w u ys _ q (r xs f) (n zs d) p s)
  λys H p=>by
   obtain⟨f,d,t⟩:=k _ ys H (by omega) (by omega) p;exact⟨⟨xs,zs,f,d,by omega⟩,by omega,hd ys H p⟩
structure Ok(P:Program)(w:World)(K:PySem.W.Frag)(mg:Str->Option Value)(base:Heap)(x:Str)(k:Nat)(ps:List Str)(sp:Sp):Prop where
 ex:∃f fd,mg x=some (.ref f)/\PySem.W.keepIn K (.ref f)=true/\Binds K fd ps []/\FnOk P w K mg base CX0 k f fd ps sp
structure FunAt(K:PySem.W.Frag)(mg:Str->Option Value)(x:Str)(st:Stmt)(ps:List Str):Prop where
 ex:∃f fd,mg x=some (.ref f)/\Fun K x x st f fd/\Binds K fd ps []
section
variable {P:Program}{w:World}{K:PySem.W.Frag}{mg:Str->Option Value}{base:Heap}
theorem FunAt.ok{x:Str}{st:Stmt}{N ps:List Str}{k:Nat}{sp:Sp}(F:FunAt K mg x st ps)(S:FnScope N ps (A1 st))(len:∀vs H Q E,sp vs H Q E->vs.length=ps.length)
  (b:∀(a:Value) (f:Addr) (A:Around) (outer:List Env) (s:Shared) (H:Hp) (vs:List V) (Q:VK) (E:XK),Room k (A.deeper (envOfC x (A1 st) s.heap.objs.size f a))->sp vs H Q E ->
   ∃t,PSs (V0 CX0 P w K mg base N x (A1 st) f a A outer s H E).nox (E1 st) t/\t {nx:=λ_ H'=>Q .non H',rt:=Q} (start N vs) H):Ok P w K mg base x (k+1) ps sp:=by
 obtain⟨f,fd,h1,h2,c⟩:=F.ex;exact⟨f,fd,h1,h2.kp,c,h2.ok S len λa=>b a f⟩
end
section
variable {X:Cx}{k:Nat}{ps:List Str}{sp:Sp}{x:Str}{p pos:Pos}{e:Expr}{es:List Expr}{t:TA}
theorem b1j(O:Ok X.prog X.w X.K X.mg X.base x k ps sp)(c:Room k X.A)(h:Gl X x)(ha:PA X (e::es) t)(b:(x==("__debug__" : Str))=false:=by decide)
  (d:starEach (e::es) X.env=(false,eval e X.env)::starEach es X.env:=by rfl) (a:(backTo pos (starEach es X.env)).any (·.1)=false:=by rfl):PE X (.Call (.Name x p) (e::es) [] pos) (a2d sp [] E0 t):=by
 obtain⟨f,fd,h1,h2,g,i⟩:=O.ex;exact b3C i c h h1 h2 g .nil a8d ha b d a
end
inductive EqV(K:PySem.W.Frag)(H:Hp):Nat->V->V->Bool->Prop
 |flat {n:Nat}{x y:V}(fx:a6d x=true) (fy:a6d y=true):EqV K H n x y (eqV x y)
 |tup {n:Nat}{a b:Addr}{xs ys:List V}(e:Nat->Bool) (ha:SqT K H a xs) (hb:SqT K H b ys) (he:∀j x y,xs[j]?=some x->ys[j]?=some y->EqV K H n x y (e j)) :
   EqV K H (n+1) (.ref a) (.ref b) ((List.range (min xs.length ys.length)).all e && xs.length==ys.length)
 |lst {n:Nat}{a b:Addr}{xs ys:List V}(e:Nat->Bool) (ha:SqL K H a xs) (hb:SqL K H b ys) (he:∀j x y,xs[j]?=some x->ys[j]?=some y->EqV K H n x y (e j)) :
   EqV K H (n+1) (.ref a) (.ref b) ((List.range (min xs.length ys.length)).all e && xs.length==ys.length)
theorem b2h:∀{x:V},a6d x=true->eqV x x=true
 |.non,_=>rfl
 |.bl b,_=>beq_self_eq_true b
 |.int i,_=>beq_self_eq_true i
 |.str y,_=>beq_self_eq_true y
 |.byt _,h=>by cases h
 |.flt _,h=>by cases h
 |.ref _,h=>by cases h
 |.ty _,h=>by cases h
section
variable {X:Cx}{pins:List (Addr×Obj)}{σ:St}{H:Hp}{s:Shared}
theorem EqV.same{n:Nat}{x y:V}{b:Bool}(I:Inv X pins σ H s)(h:EqV X.K H n x y b):x=y->b=true:=by
 induction h with
 |flat fx fy=>rintro rfl;exact b2h fx
 |tup e ha hb he ih =>
  intro z;cases z;have q:=I.tuple_inj ha hb;subst q;simp only[Nat.min_self,Bool.and_eq_true,beq_self_eq_true,and_true,List.all_eq_true,List.mem_range];intro j a;exact ih j _ _ (List.getElem?_eq_getElem a) (List.getElem?_eq_getElem a) rfl
 |lst e ha hb he ih =>
  intro z;cases z;have q:=I.list_inj ha hb;subst q;simp only[Nat.min_self,Bool.and_eq_true,beq_self_eq_true,and_true,List.all_eq_true,List.mem_range];intro j a;exact ih j _ _ (List.getElem?_eq_getElem a) (List.getElem?_eq_getElem a) rfl
theorem D5{xs:List V}{us:List Value}{j:Nat}{u:Value}(r:Vals xs us)(h:us[j]?=some u):∃x,xs[j]?=some x/\RelV x u:=by
 obtain⟨c,_⟩:=List.getElem?_eq_some_iff.mp h;have a:j<xs.length:=by rw[r.length];exact c
 have b:xs[j]?=some xs[j]:=List.getElem?_eq_getElem a;obtain⟨d,e,q⟩:=r.get b;rw[h]at e;cases e;exact⟨_,b,q⟩
theorem EqV.at{n:Nat}{x y:V}{b:Bool}(I:Inv X pins σ H s)(h:EqV X.K H n x y b):∀{A:Around}{u v:Value},A.units+n<cLine->RelV x u->RelV y v->SeqAt.EqAt A s u v b:=by
 induction h with
 |flat fx fy=>intro A u v _ i g;exact b6C i g fx fy
 |@tup n a b xs ys e ha hb he ih =>
  intro A u v p i g;cases i;cases g;by_cases c:a=b
  .have:=(EqV.tup e ha hb he).same I (by rw[c]);rw[this,c];exact SeqAt.EqAt.same _
  .obtain⟨us,r1,p1,_⟩:=I.tuple ha;obtain⟨d,k,p2,_⟩:=I.tuple hb;rw[r1.length,k.length];refine SeqAt.EqAt.of_refs c ?_;have:=SeqAt.RcAt.tuples (A:=A) (s:=s) (e:=e) (show s.heap.IsTuple a us.toArray from p1) (show s.heap.IsTuple b d.toArray from p2) (by omega) (λj h1 h2=>?_)
   .simpa using this
   .have h1':us[j]?=some us.toArray[j]:=by simp at h1⊢
    have f:d[j]?=some d.toArray[j]:=by simp at h2⊢
    obtain⟨x,ex,l⟩:=D5 r1 h1';obtain⟨y,o,m⟩:=D5 k f;exact ih j x y ex o (by show A.units+1+n<cLine;omega) l m
 |@lst n a b xs ys e ha hb he ih =>
  intro A u v p i g;cases i;cases g;by_cases c:a=b
  .have:=(EqV.lst e ha hb he).same I (by rw[c]);rw[this,c];exact SeqAt.EqAt.same _
  .obtain⟨us,r1,p1,_⟩:=I.list ha;obtain⟨d,k,p2,_⟩:=I.list hb;rw[r1.length,k.length];refine SeqAt.EqAt.of_refs c ?_;by_cases hl:us.length=d.length
   .have:=SeqAt.RcAt.lists (A:=A) (s:=s) (e:=e) p1.isList p2.isList (by simpa using hl) (by omega) (λj h1 h2=>?_)
    .simpa[hl]using this
    .have h1':us[j]?=some us.toArray[j]:=by simp at h1⊢
     have f:d[j]?=some d.toArray[j]:=by simp at h2⊢
     obtain⟨x,ex,l⟩:=D5 r1 h1';obtain⟨y,o,m⟩:=D5 k f;exact ih j x y ex o (by show A.units+1+n<cLine;omega) l m
   .have:=SeqAt.RcAt.lists_lengths (A:=A) (s:=s) p1.isList p2.isList (by simpa using hl) (by omega);have q:(us.length==d.length)=false:=by simpa using hl
    rw[q,Bool.and_false];exact this
end
def a5F(K:PySem.W.Frag)(neg:Bool):R2:=λx y H Q=>∃n b,n<=50/\EqV K H n x y b/\(∃a c,x=.ref a/\y=.ref c)/\Q (.bl (if neg then !b else b)) H
section
variable {X:Cx}
theorem b6a(r:X.A.units+60<cLine):OpR X (compareOp .Eq) (a5F X.K false):=by
 intro pins s σ H x y v u Q I g i h;obtain⟨n,b,t,l,⟨a,c,rfl,rfl⟩,q⟩:=h;cases g;cases i;show wpAny _ _ (richCompare .Eq (.ref a) (.ref c)) _ _ s;have key:SeqAt.RcAt X.A s (.ref a) (.ref c) b:=by
  cases l with
  |flat fx fy=>cases fx
  |@tup n _ _ xs ys e ha hb l =>
   obtain⟨us,k,p1,_⟩:=I.tuple ha;obtain⟨d,m,p2,_⟩:=I.tuple hb;rw[k.length,m.length];have:=SeqAt.RcAt.tuples (A:=X.A) (s:=s) (e:=e) (show s.heap.IsTuple a us.toArray from p1) (show s.heap.IsTuple c d.toArray from p2) (by omega) (λj h1 h2=>?_)
   .simpa using this
   .have h1':us[j]?=some us.toArray[j]:=by simp at h1⊢
    have f:d[j]?=some d.toArray[j]:=by simp at h2⊢
    obtain⟨x,ex,g⟩:=D5 k h1';obtain⟨y,o,i⟩:=D5 m f;exact(l j x y ex o).at I (by show X.A.units+1+n<cLine;omega) g i
  |@lst n _ _ xs ys e ha hb l =>
   obtain⟨us,k,p1,_⟩:=I.list ha;obtain⟨d,m,p2,_⟩:=I.list hb;rw[k.length,m.length];by_cases hl:us.length=d.length
   .have:=SeqAt.RcAt.lists (A:=X.A) (s:=s) (e:=e) p1.isList p2.isList (by simpa using hl) (by omega) (λj h1 h2=>?_)
    .simpa[hl]using this
    .have h1':us[j]?=some us.toArray[j]:=by simp at h1⊢
     have f:d[j]?=some d.toArray[j]:=by simp at h2⊢
     obtain⟨x,ex,g⟩:=D5 k h1';obtain⟨y,o,i⟩:=D5 m f;exact(l j x y ex o).at I (by show X.A.units+1+n<cLine;omega) g i
   .have:=SeqAt.RcAt.lists_lengths (A:=X.A) (s:=s) p1.isList p2.isList (by simpa using hl) (by omega);have p:(us.length==d.length)=false:=by simpa using hl
    rw[p,Bool.and_false];exact this
 exact key _ _ _ _ ⟨.bl _,H,I,rfl,q⟩
theorem b5W(r:X.A.units+60<cLine):OpR X (compareOp .NotEq) (a5F X.K true):=by
 intro pins s σ H x y v u Q I g i h;obtain⟨n,b,t,l,⟨a,c,rfl,rfl⟩,q⟩:=h;cases g;cases i;show wpAny _ _ (richCompare .NotEq (.ref a) (.ref c)) _ _ s;have key:SeqAt.RcNeAt X.A s (.ref a) (.ref c) (!b):=by
  cases l with
  |flat fx fy=>cases fx
  |@tup n _ _ xs ys e ha hb l =>
   obtain⟨us,k,p1,_⟩:=I.tuple ha;obtain⟨d,m,p2,_⟩:=I.tuple hb;rw[k.length,m.length];have:=SeqAt.RcNeAt.tuples (A:=X.A) (s:=s) (e:=e) (show s.heap.IsTuple a us.toArray from p1) (show s.heap.IsTuple c d.toArray from p2) (by omega) (λj h1 h2=>?_)
   .simpa using this
   .have h1':us[j]?=some us.toArray[j]:=by simp at h1⊢
    have f:d[j]?=some d.toArray[j]:=by simp at h2⊢
    obtain⟨x,ex,g⟩:=D5 k h1';obtain⟨y,o,i⟩:=D5 m f;exact(l j x y ex o).at I (by show X.A.units+1+n<cLine;omega) g i
  |@lst n _ _ xs ys e ha hb l =>
   obtain⟨us,k,p1,_⟩:=I.list ha;obtain⟨d,m,p2,_⟩:=I.list hb;rw[k.length,m.length];by_cases hl:us.length=d.length
   .have:=SeqAt.RcNeAt.lists (A:=X.A) (s:=s) (e:=e) p1.isList p2.isList (by simpa using hl) (by omega) (λj h1 h2=>?_)
    .simpa[hl]using this
    .have h1':us[j]?=some us.toArray[j]:=by simp at h1⊢
     have f:d[j]?=some d.toArray[j]:=by simp at h2⊢
     obtain⟨x,ex,g⟩:=D5 k h1';obtain⟨y,o,i⟩:=D5 m f;exact(l j x y ex o).at I (by show X.A.units+1+n<cLine;omega) g i
   .have:=SeqAt.RcNeAt.lists_lengths (A:=X.A) (s:=s) p1.isList p2.isList (by simpa using hl) (by omega);have p:(us.length==d.length)=false:=by simpa using hl
    rw[p,Bool.and_false];exact this
 exact key _ _ _ _ ⟨.bl _,H,I,rfl,q⟩
theorem b4y{ns ms:List Int}:((List.range (min ns.length ms.length)).all (λj=>decide (ns.getD j 0=ms.getD j 0)) && ns.length==ms.length)=decide (ns=ms):=by
 rw[Bool.eq_iff_iff];simp only[Bool.and_eq_true,List.all_eq_true,List.mem_range,decide_eq_true_eq,beq_iff_eq];constructor
 .rintro⟨h1,h2⟩;refine List.ext_getElem h2 λi a b=>?_;have:=h1 i (by omega);simpa[List.getD_eq_getElem?_getD,a,b]using this
 .rintro rfl;exact⟨λ_ _=>rfl,rfl⟩
theorem b1T{ns:List Int}{j:Nat}{x:V}(h:(ns.map V.int)[j]?=some x):x=.int (ns.getD j 0)/\j<ns.length:=by
 rw[List.getElem?_map]at h;cases e:ns[j]? with
 |none=>rw[e]at h;cases h
 |some z =>
  rw[e]at h;obtain⟨a,_⟩:=List.getElem?_eq_some_iff.mp e;exact⟨by rw[List.getD_eq_getElem?_getD,e];exact(Option.some.inj h).symm,a⟩
theorem EqV.ints{K:PySem.W.Frag}{H:Hp}{k:Bool}{a b:Addr}{ns ms:List Int}(ha:SqK k K H a (ns.map V.int))(hb:SqK k K H b (ms.map V.int)):EqV K H 1 (.ref a) (.ref b) (decide (ns=ms)):=by
 have step:∀j x y,(ns.map V.int)[j]?=some x->(ms.map V.int)[j]?=some y->EqV K H 0 x y (decide (ns.getD j 0=ms.getD j 0)):=λj x y c d=>by
  obtain⟨rfl,_⟩:=b1T c;obtain⟨rfl,_⟩:=b1T d;have:=EqV.flat (K:=K) (H:=H) (n:=0) (x:=.int (ns.getD j 0)) (y:=.int (ms.getD j 0)) rfl rfl;rw[show eqV (.int (ns.getD j 0)) (.int (ms.getD j 0))=decide (ns.getD j 0=ms.getD j 0)from rfl]at this;exact this
 rw[<-b4y];cases k
 .have:=EqV.lst (λj=>decide (ns.getD j 0=ms.getD j 0)) ha hb step;simpa using this
 .have:=EqV.tup (λj=>decide (ns.getD j 0=ms.getD j 0)) ha hb step;simpa using this
theorem b2a:b6T X (a6O X.K):=by
 intro pins s σ H x y v u Q I c f h;obtain⟨p,xs,i,z,rfl,rfl,d,k,q⟩:=h;cases c;obtain⟨t,rfl⟩:=f;obtain⟨its,r,pl,l⟩:=I.list d;obtain⟨j,h1,h2,m,e,g⟩:=a4Y k;obtain⟨w,b,a⟩:=r.get h2;have hl:=r.length;have n:=a0S;have fin:EP X pins σ Q w s:=⟨z,H,I,a,q⟩;by_cases h0:0<=i
 .have hj:i.toNat=j:=by
   rw[seqIndex_of h0 g]at h1;exact Option.some.inj h1
  exact wpAny_getItem_list pl.isList h0 (by omega) (by rw[hj];simpa using b) fin
 .have hj:(i+(its.toArray.size:Int)).toNat=j:=by
   rw[seqIndex_neg (by omega) e]at h1;rw[List.size_toArray,<-hl];exact Option.some.inj h1
  exact wpAny_getItem_list_neg pl.isList (by omega) (by rw[List.size_toArray]<;>omega) (by omega) (by rw[hj];simpa using b) fin
def a2r:R2:=λx y H Q=>∃a b xs ys,x=.ref a/\y=.ref b/\H a=some (.tup xs)/\H b=some (.tup ys)/\xs.length+ys.length<=sizeLine/\∀p H',Same H H'->H' p=some (.tup (xs++ys))->Q (.ref p) H'
theorem b1l:OpR X (binaryOp .Add) a2r:=by
 intro pins s σ H x y v u Q I m w h;obtain⟨a,b,xs,ys,rfl,rfl,ha,hb,A,q⟩:=h;by_cases l:xs=[]
 .subst l;cases m;cases w;obtain⟨its,B,p1,_⟩:=I.tuple (.inl (.inl ha));obtain⟨t,C,p2,_⟩:=I.tuple (.inl (.inl hb));cases B;obtain⟨⟨cls,dd,data,sl⟩,r,hc,n,hd⟩:=id p1;obtain⟨⟨z,j,i,k⟩,d,g,n2,f⟩:=id p2;simp only at hc hd g f;subst hc hd g f;exact concat_meets ⟨_,r,rfl⟩ ⟨_,d,rfl⟩ noFill_tuple_add seq_tuple_add PySem.F.slot_tuple_add PySem.F.entry_tuple_add (PySem.F.args_tuple_add_2 _ _)
   (tuple_addW0 a b _ _ n n2 dd j sl k (by simp)) ⟨r,d,⟨.ref b,H,I,rfl,q b H (Same.refl H) hb⟩⟩
 .refine b3I pins s σ H _ _ v u Q I m w ⟨a,b,xs,ys,rfl,rfl,.inl (.inl ha),.inl (.inl hb),l,A,λe=>?_,λ_ p hp=>?_⟩
  .subst e;exact q a H (Same.refl H) (by rw[List.append_nil];exact ha)
  .exact q p _ (λc o e=>by rw[A2 (A6 e hp)];exact e) A0
end
open PySem.AutoSeq1 (wpAny_loadPart')
theorem a0R:fillsNumberSlot (.type "tuple") "mul"=pure false :=
 PySem.fillsNumberSlot_seq (id:="tuple.__mul__") (r:=some (.builtin "tuple.__rmul__")) F.slot_tuple_mul.lookup (by decide +kernel) F.slot_tuple_rmul.lookup (by decide +kernel)
theorem a4y:seqRepeat? (.type "tuple")=pure (some (.builtin "tuple.__mul__")):=by
 unfold seqRepeat?;rw[PySem.seqSlot_of (T:="tuple") (name:="__mul__") (id:="tuple.__mul__") F.slot_tuple_mul.lookup (by decide +kernel),PySem.seqSlot_of (T:="tuple") (name:="__rmul__") (id:="tuple.__rmul__") F.slot_tuple_rmul.lookup (by decide +kernel)];rfl
theorem a6J(a:Int)(t:Tok)(l:Addr)(items:Array Value)(n:Nat)(dd:Option Addr)(sl:Array (Option Value)) :
  Meets (Builtin.«int.__rmul__» ⟨[.int a t,.ref l],[]⟩) (λ_ R s=>s.heap.get? l=some {cls:=.type "tuple",dict:=dd,data:=.seq items n,slots:=sl}/\R (.ok (.ret Value.notImplemented)) s) :=
 .of_wp λprog w A R s h=>by obtain⟨hp,g,d,tk,os⟩:=s;obtain⟨hl,h⟩:=h;wp_walk;exact⟨_,rfl,h⟩
theorem a6x(l:Addr)(items:Array Value)(n:Nat)(dd:Option Addr)(sl:Array (Option Value))(u:Tok) :
  Meets (Builtin.«tuple.__mul__» ⟨[.ref l,.int 1 u],[]⟩) (λ_ R s=>s.heap.get? l=some {cls:=.type "tuple",dict:=dd,data:=.seq items n,slots:=sl}/\R (.ok (.ret (.ref l))) s) :=
 .of_wp λprog w A R s h=>by
  obtain⟨hp,g,d,tk,os⟩:=s;obtain⟨hl,h⟩:=h;have f1:=AutoSeq1.idx_int
  wp_walk using wpAny_loadPart' hl
  exact⟨_,rfl,h⟩
theorem a6w(l:Addr)(items:Array Value)(n:Nat)(dd:Option Addr)(sl:Array (Option Value))(x:Int)(u:Tok)(b:items.isEmpty=false)(h1:1<x)(h2:¬(decide (x < -(2 ^ 63)) || decide (x ≥ 2 ^ 63))=true)
  (i:¬((items.size:Int)*x > (2 ^ 63-1) / 8)) (e:¬Builtin.Tuple.tupleTooMany ((items.size:Int)*x)=true) (hsz:(List.foldl (λc a=>c++a) #[] (List.replicate x.toNat items)).size<=sizeLine) :
  Meets (Builtin.«tuple.__mul__» ⟨[.ref l,.int x u],[]⟩) (λ_ R s=>s.heap.get? l=some {cls:=.type "tuple",dict:=dd,data:=.seq items n,slots:=sl} /\
   R (.ok (.ret (.ref s.heap.objs.size))) {s with heap:=s.heap.push {cls:=.type "tuple",data:=.seq (List.foldl (λc a=>c++a) #[] (List.replicate x.toNat items))}}) :=
 .of_wp λprog w A R s h=>by
  obtain⟨hp,g,d,tk,os⟩:=s;obtain⟨hl,h⟩:=h;have f1:=AutoSeq1.idx_int;have f:(x==1)=false:=by simp;omega
  have j:decide (x<=0)=false:=by simp;omega
  have k:¬((items.isEmpty || x==1)=true):=by rw[b,f];decide
  have m:¬((decide (x<=0) || items.isEmpty)=true):=by rw[b,j];decide
  wp_walk using wpAny_loadPart' hl
  rw[if_neg h2]
  wp_walk using wpAny_loadPart' hl
  rw[if_neg i]
  wp_walk using wpAny_loadPart' hl
  first
   |exact⟨_,rfl,h⟩
   |(rw[if_neg e];wp_walk using wpAny_loadPart' hl;exact⟨_,rfl,h⟩)
theorem a2S{α:Type}(its:List α):∀(k:Nat) (a:List α),List.foldl (λc b=>c++b) a.toArray (List.replicate k its.toArray)=(a++(List.replicate k its).flatten).toArray
 |0,a=>by simp
 |k+1,a=>by
  have e:a.toArray++its.toArray=(a++its).toArray:=by simp
  rw[List.replicate_succ,List.foldl_cons,e,a2S its k,List.replicate_succ,List.flatten_cons,List.append_assoc]
section
variable {X:Cx}
def b4K:R2:=λx y H Q=>∃a xs n,x=.ref a/\y=.int n/\H a=some (.tup xs)/\xs≠[]/\1<=n/\(xs.length:Int)*n<=(sizeLine:Int)/\∀p H',Same H H'->H' p=some (.tup (List.replicate n.toNat xs).flatten)->Q (.ref p) H'
theorem b3F:OpR X (binaryOp .Mult) b4K:=by
 intro pins s σ H x y v u Q I w A h;obtain⟨a,xs,n,rfl,rfl,ha,j,E,C,q⟩:=h;cases w;obtain⟨t,rfl⟩:=A;obtain⟨its,r,p1,k⟩:=I.tuple (.inl (.inl ha));obtain⟨⟨cls,dd,data,sl⟩,g,hc,m,hd⟩:=id p1;simp only at hc hd;subst hc hd;have d:=r.length;have f:0<its.length:=by rw[<-d];exact List.length_pos_iff.mpr j
 refine wpAny_binaryOp_repeat_ref (T:="tuple") (U:="int") (by decide) ⟨_,g,rfl⟩ (λs'=>typeIs_int s' n t) a0R F.fills_int_mul F.slot_int_rmul a4y F.slot_int_index.lookup
  (call_meets F.slot_int_rmul (typeIs_int s n t) F.entry_int_rmul (F.args_int_rmul_2 _ _) (a6J n t a its.toArray m dd sl) ⟨g,rfl,⟨_,g,rfl⟩,?_⟩)
 by_cases h1:n=1
 .subst h1;refine call_meets F.slot_tuple_mul ⟨_,g,rfl⟩ F.entry_tuple_mul (F.args_tuple_mul_2 _ _) (a6x a its.toArray m dd sl t) ⟨g,.ref a,H,I,rfl,q a H (Same.refl H) ?_⟩;rw[ha];simp
 .have e0:=a2S its n.toNat [];rw[List.nil_append]at e0;have hl:((List.replicate n.toNat its).flatten).length=n.toNat*its.length:=a8f its n.toNat;have hb:n.toNat*its.length<=sizeLine:=by
   have D:((n.toNat*its.length:Nat):Int)=(xs.length:Int)*n:=by
    rw[d];push_cast;rw[Int.toNat_of_nonneg (by omega),Int.mul_comm]
   omega
  have hs:sizeLine=16777216:=sizeLine_eq;have hsz:(its.toArray.size:Int)*n<=16777216:=by rw[List.size_toArray,<-d];omega
  have p:n<=(its.toArray.size:Int)*n:=by
   have h0:(1:Int)<=(its.toArray.size:Int):=by rw[List.size_toArray];omega
   have:=Int.mul_le_mul_of_nonneg_right h0 (show(0:Int)<=n by omega);omega
  refine call_meets F.slot_tuple_mul ⟨_,g,rfl⟩ F.entry_tuple_mul (F.args_tuple_mul_2 _ _) (a6w a its.toArray m dd sl n t (by simp;intro z;rw[z]at f;exact Nat.lt_irrefl _ f) (by omega) ?_ ?_ ?_ ?_) ⟨g,?_⟩
  .simp only[Bool.or_eq_true,decide_eq_true_eq,not_or];omega
  .omega
  .simp only[Builtin.Tuple.tupleTooMany,decide_eq_true_eq];omega
  .have e0':List.foldl (λl i=>l++i) #[] (List.replicate n.toNat its.toArray)=(List.replicate n.toNat its).flatten.toArray:=e0;rw[e0',List.size_toArray,hl];exact hb
  .have e0':List.foldl (λl i=>l++i) #[] (List.replicate n.toNat its.toArray)=(List.replicate n.toNat its).flatten.toArray:=e0;rw[e0'];have hf:H s.heap.objs.size=none:=I.hok.fresh (Nat.le_refl _);refine⟨.ref s.heap.objs.size,_,I.laid (t':=s.toks) (o:=.tup (List.replicate n.toNat xs).flatten) (λb B q=>Heap.get?_push_of_some _ q) (Nat.le_refl _) ?_,rfl,q _ _ (λc o e=>by rw[A2 (A6 e hf)];exact e) A0⟩;exact⟨by rw[a8f,d];exact hb,_,r.rep n.toNat,IsTup.new _ _⟩
end
end L2
namespace L2
open PySem PySem.Spec PyProof.Rows
section
variable {X:Cx}{pos:Pos}
theorem b3x(K:PySem.W.Frag){es:List Expr}{k:Nat}{t:TGs}{n:Nat}(hc:X.calm=true)(h:PGs X es t)(b:X.K=K:=by rfl)
  (c:(assignEach es X.env).length=n:=by rfl) (a:(assignEach es X.env).findIdx? (·.1)=none:=by rfl):PG X (.Tuple es k pos) (a6b K n t):=by
 subst b;exact b5E hc h c a
theorem b1d(K:PySem.W.Frag){tg l:Expr}{tl:TE}(hl:PE X l tl)(a:X.K=K:=by rfl):PI X tg l (b1V K tl):=by subst a;exact b3u hl
theorem b3t(K:PySem.W.Frag){tg l:Expr}{tl:TE}(hl:PE X l tl)(a:X.K=K:=by rfl):PI X tg l (b6A K tl):=by subst a;exact b5D hl
theorem b3s(K:PySem.W.Frag){es:List Expr}{e:Nat}{d:Pos}{a b:Expr}{ta:TA}{p pos:Pos}(h:Gl X "zip")(f:X.mg "zip"=none)(ha:PA X [a,b] ta)(g:X.K=K:=by rfl)
  (hs:starEach [a,b] X.env=[(false,eval a X.env),(false,eval b X.env)]:=by rfl) (c:starEach [b] X.env=[(false,eval b X.env)]:=by rfl) :
  PI X (.Tuple es e d) (.Call (.Name "zip" p) [a,b] [] pos) (b6z K ta):=by subst g;exact b5C h f ha b6I hs c
def a8G(K:PySem.W.Frag)(ta:TE):TT:=λσ H Q=>ta σ H λx H'=>∃k,b6R K x H' k/\Q k H'
theorem a9a(K:PySem.W.Frag){a:Expr}{ta:TE}(ha:PE X a ta)(c:∀b,isTrue a X.env b=(do let v <-b;standAt a.pos;holding [v] (truthy v)))(d:X.K=K:=by rfl):PT X a (a8G K ta):=by
 subst d;exact b0T ha c
theorem b1S(K:PySem.W.Frag)(a:X.K=K:=by rfl):IxR X (a6O K):=by subst a;exact b4e
theorem b4d(K:PySem.W.Frag)(a:X.K=K:=by rfl):IxR X (b5q K):=by subst a;exact b6v
theorem a9A(K:PySem.W.Frag)(a:X.K=K:=by rfl):b6T X (a6O K):=by subst a;exact b2a
theorem b0A(K:PySem.W.Frag)(a:X.K=K:=by rfl):SlR X (b5p K):=by subst a;exact b2R
theorem b2Q(K:PySem.W.Frag)(a:X.K=K:=by rfl):SlR X (a6N K):=by subst a;exact b0y
theorem b5Z(K:PySem.W.Frag)(b:X.A.units+60<cLine)(a:X.K=K:=by rfl):OpR X (compareOp .Eq) (a5F K false):=by subst a;exact b6a b
theorem b5V(K:PySem.W.Frag)(b:X.A.units+60<cLine)(a:X.K=K:=by rfl):OpR X (compareOp .NotEq) (a5F K true):=by subst a;exact b5W b
theorem a9V(K:PySem.W.Frag)(hc:X.calm=true)(a:X.K=K:=by rfl):D0 X (.builtin "all") (b5u K):=by subst a;exact b2s hc
theorem a9U(K:PySem.W.Frag)(hc:X.calm=true)(a:X.K=K:=by rfl):D0 X (.builtin "any") (b5t K):=by subst a;exact b2r hc
theorem a9L(K:PySem.W.Frag)(hc:X.calm=true)(a:X.K=K:=by rfl):D0 X (.builtin "sum") (b5n K):=by subst a;exact b2p hc
theorem a9R(K:PySem.W.Frag)(a:X.K=K:=by rfl):D0 X (.builtin "isinstance") (b5r K):=by subst a;exact b2q
def b7f(K:PySem.W.Frag):RL:=λxs H Q=>∃p ys,xs=[.ref p]/\(SqL K H p ys∨SqT K H p ys)/\Q (.int ys.length) H
def b4L(K:PySem.W.Frag):RL:=λxs H Q=>∃p ys,xs=[.ref p]/\(SqL K H p ys∨SqT K H p ys)/\∀l,H l=none->Q (.ref l) (upd H l (.lst ys))
def a4z(K:PySem.W.Frag):RL:=λxs H Q=>∃p ys,xs=[.ref p]/\((SqL K H p ys/\∀l,H l=none->Q (.ref l) (upd H l (.tup ys)))∨(SqT K H p ys/\Q (.ref p) H))
theorem a9Q(K:PySem.W.Frag)(a:X.K=K:=by rfl):D0 X (.builtin "len") (b7f K):=by subst a;exact a4W
theorem a7r(K:PySem.W.Frag)(a:X.K=K:=by rfl):D0 X (.type "list") (b4L K):=by subst a;exact a4V
theorem a6m(K:PySem.W.Frag)(a:X.K=K:=by rfl):D0 X (.type "tuple") (a4z K):=by subst a;exact a3o
def b3f:RL:=λxs H Q=>∃i j,xs=[.int i,.int j]/\Q (.int (if j<i then j else i)) H
def a8X:RL:=λxs H Q=>∃i j,xs=[.int i,.int j]/\Q (.int (if j > i then j else i)) H
def b7g:RL:=λxs H Q=>(∃i,xs=[.int i]/\Q (.int i) H)∨∃k,xs=[.bl k]/\Q (.int (if k then 1 else 0)) H
theorem a9N(hc:X.calm=true):D0 X (.builtin "max") a8X:=a9O hc
theorem a9S:D0 X (.type "int") b7g:=a9T
variable {o e:Expr}{es:List Expr}{to:TE}{t:TA}{name:Str}{apos cpos:Pos}{T id:String}{r:V->List V->Hp->VK->Prop}
theorem a6T(K:PySem.W.Frag)(g:PlainAttrs T)(slot:Slot T name id)(f:typeOf (.builtin id)=pure (.type "method_descriptor"))(i:MtR X id r)(h:PE X o to)(ha:PA X (e::es) t)(j:X.K=K:=by rfl)
  (c:attributeBase o name X.env (eval o X.env)=eval o X.env:=by rfl)
  (d:((backTo cpos (starEach (e::es) X.env)).all (λx=>!x.1) && (backToKw cpos (keywordEach [] X.env)).all (λx=>x.1.isSome)
   && decide ((e::es).length+([]:List Keyword).length+(if ([]:List Keyword).isEmpty then 0 else 1)<30))=true:=by rfl)
  (b:(apos.endLine==cpos.line)=true:=by rfl) (hs:starEach (e::es) X.env=(false,eval e X.env)::starEach es X.env:=by rfl) (a:(backTo cpos (starEach es X.env)).any (·.1)=false:=by rfl) :
  PE X (.Call (.Attribute o name apos) (e::es) [] cpos) (tBM K T r to t):=by subst j;exact b7m g slot f i h ha c d b hs a
end
def IT(H:Hp)(v:V)(ns:List Int):Prop:=∃a,v=.ref a/\H a=some (.tup (ns.map V.int))
theorem IT.same{H H':Hp}{v:V}{ns:List Int}(h:IT H v ns)(s:Same H H')   : IT H' v ns:=let ⟨a,e,q⟩:=h;⟨a,e,s a _ q⟩
theorem Same.upd{H H':Hp}{p:Addr}{o:HO}(s:Same H H')(hp:H' p=none):Same H (upd H' p o):=λb u e=>by
 rw[A2 (A6 (s b u e) hp)];exact s b u e
theorem Q3{H:Hp}{p b:Addr}{o u:HO}(hb:H b=some u)(hp:H p=none):upd H p o b=some u:=by rw[A2 (A6 hb hp)];exact hb
def Off(l:List Addr)(H H':Hp):Prop:=∀b o,b∉l->H b=some o->H' b=some o
theorem Off.refl(l:List Addr)(H:Hp):Off l H H:=λ_ _ _ e=>e
theorem Off.trans{l:List Addr}{H H1 H2:Hp}(a:Off l H H1)(b:Off l H1 H2):Off l H H2:=λc o hc e=>b c o hc (a c o hc e)
theorem Same.off{l:List Addr}{H H':Hp}(s:Same H H'):Off l H H':=λb o _ e=>s b o e
theorem Off.upd{l:List Addr}{H H':Hp}{p:Addr}{o:HO}(s:Off l H H')(hp:H' p=none):Off l H (upd H' p o):=λb u hb e=>by
 rw[A2 (A6 (s b u hb e) hp)];exact s b u hb e
theorem Off.set{l:List Addr}{H H':Hp}{p:Addr}{o:HO}(s:Off l H H')(hp:p∈l):Off l H (L2.upd H' p o):=λb u hb e=>by
 rw[A2 (by rintro rfl;exact hb hp)];exact s b u hb e
theorem K4(ns:List Int):(ns.map V.int).length=ns.length:=List.length_map _
theorem Y7{ns:List Int}{i:Nat}{x:V}(h:(ns.map V.int)[i]?=some x):∃z,ns[i]?=some z/\x=.int z:=by
 rw[List.getElem?_map]at h;cases e:ns[i]? with
 |none=>rw[e]at h;cases h
 |some z=>rw[e]at h;exact⟨z,rfl,(Option.some.inj h).symm⟩
theorem L7{α β γ:Type}(f:α->β->γ){xs:List α}{ys:List β}{i:Nat}{x:α}{y:β}(a:xs[i]?=some x)(b:ys[i]?=some y):(List.zipWith f xs ys).take (i+1)=(List.zipWith f xs ys).take i++[f x y]:=by
 have:(List.zipWith f xs ys)[i]?=some (f x y):=by rw[List.getElem?_zipWith,a,b]
 rw[List.take_add_one,this];rfl
theorem b0b{K:PySem.W.Frag}{src:List (Option Nat)}{σ caps:St}{Q:VK}{k1 k2:Bool}{a b:Addr}{xs ys:List Int}{H:Hp}{te:TE}(f:Int->Int->V)(ha:SqK k1 K H a (xs.map V.int))(hb:SqK k2 K H b (ys.map V.int))(hl:xs.length<=1000)
  (c:∀H',Same H H'->SqK k1 K H' a (xs.map V.int)/\SqK k2 K H' b (ys.map V.int))
  (g:B1 src σ=none::none::caps) (n:∀x y H1 o,Same H H1->o (f x y) H1->te (some (.int x)::some (.int y)::caps) H1 o)
  (hd:∀H1 p,Same H H1->H1 p=none->Q (.ref p) (upd H1 p (.lst (List.zipWith f xs ys)))) :
  E5 src (a6b K 2 (U6 (A9 0) (U6 (A9 1) a7j))) K7 te σ Q (Itz K k1 k2 a b) H:=by
 have t:(1000:Nat)<=sizeLine:=by rw[sizeLine_eq];decide
 refine a0B (xs:=xs.map V.int) (zs:=ys.map V.int) (by rw[K4];omega) (λi zs H'=>Same H H'/\zs=(List.zipWith f xs ys).take i) ⟨Same.refl H,by simp⟩ (λi zs H' _ _ h=>⟨(c H' h.1).1,(c H' h.1).2,by rw[h.2];exact List.length_take_le _ _⟩) ?_ ?_
 .rintro i x z zs H' p hx hy ⟨s,rfl⟩ hp;obtain⟨k,m,q⟩:=Y7 hx;obtain⟨d,l,r⟩:=Y7 hy;subst q r;clear hx hy;have s':Same H (upd H' p (.tup [.int k,.int d])):=s.upd hp;refine⟨p,[.int k,.int d],rfl,SqT.of A0,rfl,.int k,[.int d],rfl,.int d,[],rfl,rfl,?_⟩;rw[g];show Sub _ (some (.int k)::some (.int d)::caps)/\_;refine⟨⟨rfl,λj v e=>?_⟩,?_⟩
  .match j,e with
   |0,e=>cases e
   |1,e=>cases e
   |j+2,e=>exact e
  .exact n k d _ _ s' ⟨s',(L7 f m l).symm⟩
 .rintro zs H' ⟨s,rfl⟩ p hp;have e:(List.zipWith f xs ys).take (min (xs.map V.int).length (ys.map V.int).length)=List.zipWith f xs ys:=by
   rw[K4,K4,List.take_of_length_le];rw[List.length_zipWith];exact Nat.le_refl _
  rw[e];exact hd H' p s hp
theorem Sub.one{caps:St}{v:V}:Sub (none::caps) (some v::caps):=⟨rfl,λj u e=>by
 match j,e with
 |0,e=>cases e
 |j+1,e=>exact e⟩
theorem a0s{src:List (Option Nat)}{σ caps:St}{Q:VK}{n:Nat}{H:Hp}{e:TT}{te:TE}(h:n<=1000)(c:B1 src σ=none::caps)(a:Nat->List V->Hp->Prop)(h0:a 0 [] H)(hl:∀i ys H,a i ys H->ys.length<=i)
  (hs:∀i ys H,i<n->a i ys H->e (some (.int i)::caps) H λb d=>if b=true then te (some (.int i)::caps) d λv f=>a (i+1) (ys++[v]) f else a (i+1) ys d)
  (hd:∀ys H,a n ys H->∀p,H p=none->Q (.ref p) (upd H p (.lst ys))):E5 src (A9 0) e te σ Q (Itr 0 n) H:=by
 have g:(1000:Nat)<=sizeLine:=by rw[sizeLine_eq];decide
 refine a7m (by omega) a h0 hl (λi ys H hi p=>?_) hd;show Sub _ ((B1 src σ).set 0 (some (.int (0+(i:Int)))))/\_;rw[c,Int.zero_add];exact⟨Sub.one,hs i ys H hi p⟩
theorem a5k{K:PySem.W.Frag}{src:List (Option Nat)}{σ caps:St}{Q:VK}{a:Addr}{xs:List Int}{H:Hp}{te:TE}(f:Int->V)(hl:xs.length<=1000)(b:∀H',Same H H'->SqT K H' a (xs.map V.int))(c:B1 src σ=none::caps)
  (e:∀x H1 g,x∈xs->Same H H1->g (f x) H1->te (some (.int x)::caps) H1 g) (hd:∀H1 p,Same H H1->H1 p=none->Q (.ref p) (upd H1 p (.lst (xs.map f)))):E5 src (A9 0) K7 te σ Q (Itt K a) H:=by
 have j:(1000:Nat)<=sizeLine:=by rw[sizeLine_eq];decide
 refine R1 (xs:=xs.map V.int) (by rw[K4];omega) (λi ys H'=>Same H H'/\ys=(xs.take i).map f) ⟨Same.refl H,by simp⟩ (λi ys H' _ h=>⟨b H' h.1,by rw[h.2,List.length_map];exact List.length_take_le _ _⟩) ?_ ?_
 .rintro i x ys H' hx ⟨s,rfl⟩;obtain⟨z,d,rfl⟩:=Y7 hx;show Sub _ ((B1 src σ).set 0 (some (.int z)))/\_;rw[c];refine⟨Sub.one,e z H' _ (List.mem_of_getElem? d) s ⟨s,?_⟩⟩;rw[List.take_add_one,d];simp
 .rintro ys H' ⟨s,rfl⟩ p hp;rw[K4,List.take_length];exact hd H' p s hp
theorem a6K{src:List (Option Nat)}{σ caps:St}{Q:VK}{n:Nat}{H:Hp}{te:TE}(f:Nat->V)(c:n<=1000)(a:B1 src σ=none::caps)(b:∀(i:Nat) H1 Q1,i<n->Same H H1->Q1 (f i) H1->te (some (.int i)::caps) H1 Q1)
  (hd:∀H1 p,Same H H1->H1 p=none->Q (.ref p) (upd H1 p (.lst ((List.range n).map f)))):E5 src (A9 0) K7 te σ Q (Itr 0 n) H:=by
 refine a0s c a (λi ys H'=>Same H H'/\ys=(List.range i).map f) ⟨Same.refl H,rfl⟩ (λi ys H' h=>by rw[h.2];simp) ?_ ?_
 .rintro i ys H' hi ⟨s,rfl⟩;refine b i H' _ hi s ⟨s,?_⟩;rw[List.range_succ,List.map_append];rfl
 .rintro ys H' ⟨s,rfl⟩ p hp;exact hd H' p s hp
theorem Room.u60{k:Nat}{A:Around}(r:Room k A):A.units+60<cLine:=by have:=r.un;omega
theorem X1{t u:TS}{D:Ends}{σ:St}{H:Hp}(a:St->Hp->Prop)(fin:∀σ H,a σ H->u D σ H)(h:(∀σ H,a σ H->u D σ H)->t {D with nx:=u D} σ H):a6y t u D σ H:=h fin
theorem b6Z{K:PySem.W.Frag}{a:Bool}{te:TE}{σ:St}{H:Hp}{Q:VK}{b:Addr}{cs:List Int}(c:∀d:VK,d (.ref b) H->te σ H d)(hb:H b=some (.lst (cs.map V.int)))
  (q:∀p,H p=none->Q (.bl (if a then !decide (cs=[])else decide (cs=[]))) (upd H p (.lst []))):tOp (a5F K a) te (a5m R9) σ H Q :=
 c _ ⟨Nat.zero_le _,λp hp=>⟨1,_,by decide,EqV.ints (k:=false) (ms:=[]) (SqL.of (Q3 hb hp)) (SqL.of A0),⟨_,_,rfl,rfl⟩,q p hp⟩⟩
theorem b4C{K:PySem.W.Frag}{a:Bool}{te:TE}{σ:St}{H:Hp}{Q:Bool->Hp->Prop}{b:Addr}{cs:List Int}(c:∀d:VK,d (.ref b) H->te σ H d)(hb:H b=some (.lst (cs.map V.int)))
  (q:∀p,H p=none->Q (if a then !decide (cs=[])else decide (cs=[])) (upd H p (.lst []))):M9 (tOp (a5F K a) te (a5m R9)) σ H Q :=
 b6Z c hb λp hp=>⟨_,rfl,q p hp⟩
theorem ixL{K:PySem.W.Frag}{ta tb:TE}{σ:St}{H:Hp}{Q:VK}{p:Addr}{xs:List V}{i:Int}{v:V}(ha:∀a:VK,a (.ref p) H->ta σ H a)(hb:∀a:VK,a (.int i) H->tb σ H a)(hp:H p=some (.lst xs))(e:atI xs i=some v)(q:Q v H):tOp (a6O K) ta tb σ H Q :=
 ha _ (hb _ ⟨p,xs,i,v,rfl,rfl,SqL.of hp,e,q⟩)
theorem b6F(xs:List Int)(k:Nat)(a:k<=xs.length):L4 (xs.map V.int) none (some (k:Int))=(xs.take k).map V.int:=by
 unfold L4;rw[HT.sIx_none,HT.sIx_nat,List.length_map,Nat.min_eq_left a,List.drop_zero,Nat.sub_zero,List.map_take]
theorem b6G(xs:List Int)(k:Nat)(a:k<=xs.length):L4 (xs.map V.int) (some (k:Int)) none=(xs.drop k).map V.int:=by
 unfold L4;rw[HT.sIx_none,HT.sIx_nat,List.length_map,Nat.min_eq_left a,List.take_of_length_le (by simp),List.map_drop]
theorem a8O(xs:List Int)(k:Nat)(z:Int)(a:k<xs.length):xs.take k++[z]++xs.drop (k+1)=xs.set k z:=by
 rw[List.set_eq_take_append_cons_drop,if_pos a,List.append_assoc];rfl
theorem a6P{K:PySem.W.Frag}{σ:St}{H:Hp}{Q:VK}{i j:Nat}{tx:TE}{a:Addr}{xs:List Int}{k:Nat}{z:Int}(hi:σ[i]?=some (some (.ref a)))(g:σ[j]?=some (some (.int k)))(ha:H a=some (.tup (xs.map V.int)))(n:k<xs.length)(hl:xs.length<=1000)
  (c:∀H' (N:VK),Same H H'->N (.int z) H'->tx σ H' N) (q:∀v H',Same H H'->IT H' v (xs.set k z)->Q v H') :
  tOp a2r (tOp a2r (tSl (a6N K) (L8 i) G4 (a1l (L8 j))) (a5l (U4 tx R9))) (tSl (a6N K) (L8 i) (a1l (tOp (rI0 λi j=>.int (i+j)) (L8 j) (tC (.int 1)))) G4) σ H Q:=by
 have u:(3000:Nat)<=sizeLine:=by rw[sizeLine_eq];decide
 refine⟨_,hi,_,g,k,rfl,a,_,rfl,SqT.of ha,?_,λp hp=>?_⟩
 .rw[HT.sIx_none,HT.sIx_nat,List.length_map];omega
 .rw[b6F xs k (by omega)];have s1:Same H (upd H p (.tup ((xs.take k).map V.int))):=(Same.refl H).upd hp;have f:upd H p (.tup ((xs.take k).map V.int)) p=some (.tup ((xs.take k).map V.int)):=A0;generalize upd H p (.tup ((xs.take k).map V.int))=H1 at s1 f;refine c H1 _ s1 ⟨by show 1<=sizeLine;omega,λp2 e=>?_⟩;have s2:Same H1 (upd H1 p2 (.tup [.int z])):=(Same.refl H1).upd e;have h:upd H1 p2 (.tup [.int z]) p2=some (.tup [.int z]):=A0;generalize upd H1 p2 (.tup [.int z])=H2 at s2 h;refine⟨p,p2,_,_,rfl,rfl,s2 _ _ f,h,?_,λy b t m=>?_⟩
  .rw[List.length_map,List.length_take];show min k xs.length+1<=_;omega
  .have s13:Same H b:=(s1.trans s2).trans t;refine⟨_,hi,_,g,_,_,rfl,rfl,_,rfl,a,_,rfl,SqT.of (s13 _ _ ha),?_,λo d=>?_⟩
   .rw[show((k:Int)+1)=((k+1:Nat):Int) by push_cast;rfl,HT.sIx_nat,List.length_map];omega
   .rw[show((k:Int)+1)=((k+1:Nat):Int) by push_cast;rfl,b6G xs (k+1) (by omega)];have l:Same b (upd b o (.tup ((xs.drop (k+1)).map V.int))):=(Same.refl b).upd d;refine⟨y,o,_,_,rfl,rfl,l _ _ m,A0,?_,λw x s r=>?_⟩
    .rw[List.length_append,List.length_map,List.length_take,List.length_map,List.length_drop];show min k xs.length+1+_<=_;omega
    .refine q _ _ ((s13.trans l).trans s) ⟨w,rfl,?_⟩;rw[r,<-a8O xs k z n];simp
theorem var{i:Nat}{σ:St}{H:Hp}{v:V}(e:σ[i]?=some (some v)):∀Q:VK,Q v H->L8 i σ H Q:=λQ q=>⟨v,e,q⟩
theorem con{v:V}{σ:St}{H:Hp}:∀Q:VK,Q v H->tC v σ H Q:=λQ q=>q
structure JE(X:Cx)(e:Expr)(t:TE):Prop where
 h:PE X e t
structure JT(X:Cx)(e:Expr)(t:TT):Prop where
 h:PT X e t
structure JW(X:Cx)(e:Expr)(t:TT):Prop where
 h:PW X e t
structure JA(X:Cx)(es:List Expr)(t:TA):Prop where
 h:PA X es t
structure JS(X:Cx)(st:Stmt)(t:TS):Prop where
 h:PS X st t
structure JB(X:Cx)(st:List Stmt)(t:TS):Prop where
 h:PSs X st t
structure JG(X:Cx)(tg:Expr)(t:TG):Prop where
 h:PG X tg t
structure JGs(X:Cx)(ts:List Expr)(t:TGs):Prop where
 h:PGs X ts t
structure JI(X:Cx)(tg iter:Expr)(t:TI):Prop where
 h:PI X tg iter t
structure JF(X:Cx)(ifs:List Expr)(t:TT):Prop where
 h:PIf X ifs t
structure JO(X:Cx)(e:Option Expr)(t:TO):Prop where
 h:PO X e t
section
variable {X:Cx}{a b c e o:Expr}{es rest:List Expr}{ta tb tc te to:TE}{tA tB:TT}{t:TA}{pos p apos cpos p2:Pos}
theorem jv(i:Nat){x:Str}(b:X.N[i]?=some x:=by rfl)(c:Vis X.env.scope x:=by first|exact Or.inl rfl|exact Or.inr (Or.inl rfl)|exact Or.inr (Or.inr rfl))(hd:(x==("__debug__" : Str))=false:=by decide)
  (a:(x==("__classdict__" : Str))=false:=by decide):JE X (.Name x pos) (L8 i):=⟨b1f b c hd a⟩
theorem A5{i j}:JE X (.Constant (.int i) j pos) (tC (.int i)):=⟨b5M⟩
theorem N3{i j}:JE X (.Constant (.bool i) j pos) (tC (.bl i)):=⟨b7n⟩
theorem a2L{j}:JE X (.Constant .none j pos) (tC .non):=⟨b5K⟩
theorem b7w{x j}:JE X (.Constant (.str x) j pos) (tC (.str x)):=⟨b5H⟩
theorem a4N{x:Str}{v:V}{u:Value}(a:Gl X x)(d:X.mg x=none)(b:bootBuiltins x=some u)(r:RelV v u)(c:x≠"__name__":=by decide)(hd:(x==("__debug__" : Str))=false:=by decide):JE X (.Name x pos) (tC v):=⟨b3D a d b r c hd⟩
theorem L0(ha:JE X a ta)(hb:JE X b tb):JE X (.BinOp a .Add b pos) (tOp (rI0 λi j=>.int (i+j)) ta tb):=⟨a0u b6c ha.h hb.h⟩
theorem a8l(ha:JE X a ta)(hb:JE X b tb):JE X (.BinOp a .Sub b pos) (tOp (rI0 λi j=>.int (i-j)) ta tb):=⟨a0u b5T ha.h hb.h⟩
theorem Z9(ha:JE X a ta)(hb:JE X b tb):JE X (.BinOp a .Mult b pos) (tOp (rI CMul λi j=>.int (i*j)) ta tb):=⟨a0u b5X ha.h hb.h⟩
theorem a0y(ha:JE X a ta)(hb:JE X b tb):JE X (.BinOp a .Mod b pos) (tOp (rI (λ_ j=>0<j) λi j=>.int (i % j)) ta tb):=⟨a0u b5Y ha.h hb.h⟩
theorem b1R(ha:JE X a ta)(hb:JE X b tb):JE X (.BinOp a .FloorDiv b pos) (tOp (rI b7I λi j=>.int (i / j)) ta tb):=⟨a0u b3H ha.h hb.h⟩
theorem a3N(ha:JE X a ta)(hb:JE X b tb):JE X (.BinOp a .Pow b pos) (tOp (rI b7H λi j=>.int (i ^ j.toNat)) ta tb):=⟨a0u b5U ha.h hb.h⟩
theorem C5(ha:JE X a ta)(hb:JE X b tb):JE X (.BinOp a .Add b pos) (tOp (a2r) ta tb):=⟨a0u b1l ha.h hb.h⟩
theorem b4X(ha:JE X a ta)(hb:JE X b tb):JE X (.BinOp a .Add b pos) (tOp (b7i) ta tb):=⟨a0u b6b ha.h hb.h⟩
theorem b6s(ha:JE X a ta)(hb:JE X b tb):JE X (.BinOp a .Mult b pos) (tOp (b4K) ta tb):=⟨a0u b3F ha.h hb.h⟩
theorem b4W(ha:JE X a ta):JE X (.UnaryOp .USub a pos) (tUn (rU λi=>.int (-i)) ta):=⟨b7k b5f ha.h⟩
theorem b7z(ha:JE X a ta):JE X (.UnaryOp .Not a pos) (a3v ta):=⟨b5J ha.h⟩
theorem a1t{op}(h:JE X a ta):JE X (.BoolOp op [a] pos) ta:=⟨b5I h.h⟩
theorem a1u(ha:JE X a ta)(hb:JE X (.BoolOp .And (b::rest) pos) tb):JE X (.BoolOp .And (a::b::rest) pos) (a3y ta tb):=⟨b5P ha.h hb.h⟩
theorem b7y(ha:JE X a ta)(hb:JE X (.BoolOp .Or (b::rest) pos) tb):JE X (.BoolOp .Or (a::b::rest) pos) (a8H ta tb):=⟨b7l ha.h hb.h⟩
theorem b7A(hc:JT X c tA)(ha:JE X a ta)(hb:JE X b tb):JE X (.IfExp c a b pos) (tIf tA ta tb):=⟨b1h hc.h ha.h hb.h⟩
theorem a3L(ha:JE X a ta)(hb:JE X b tb):JE X (.Compare a [.Eq] [b] pos) (tOp (rEq) ta tb):=⟨a0v b4Q ha.h hb.h (J5 _)⟩
theorem a8j(ha:JE X a ta)(hb:JE X b tb):JT X (.Compare a [.Eq] [b] pos) (M9 (tOp (rEq) ta tb)):=⟨M3 b4Q ha.h hb.h (J5 _)⟩
theorem b1G(ha:JE X a ta)(hb:JE X b tb):JT X (.Compare a [.Lt] [b] pos) (M9 (tOp (rI0 λi j=>.bl (decide (i<j))) ta tb)):=⟨M3 b7o ha.h hb.h (J5 _)⟩
theorem b4T(ha:JE X a ta)(hb:JE X b tb):JE X (.Compare a [.LtE] [b] pos) (tOp (rI0 λi j=>.bl (decide (i<=j))) ta tb):=⟨a0v b7p ha.h hb.h (J5 _)⟩
theorem b7v(ha:JE X a ta)(hb:JE X b tb):JT X (.Compare a [.Gt] [b] pos) (M9 (tOp (rI0 λi j=>.bl (decide (j<i))) ta tb)):=⟨M3 b7q ha.h hb.h (J5 _)⟩
theorem b7u(ha:JE X a ta)(hb:JE X b tb):JE X (.Compare a [.GtE] [b] pos) (tOp (rI0 λi j=>.bl (decide (j<=i))) ta tb):=⟨a0v b4P ha.h hb.h (J5 _)⟩
theorem b4U(ha:JE X a ta)(hb:JE X b tb):JT X (.Compare a [.GtE] [b] pos) (M9 (tOp (rI0 λi j=>.bl (decide (j<=i))) ta tb)):=⟨M3 b4P ha.h hb.h (J5 _)⟩
theorem b6m(K:PySem.W.Frag)(d:X.A.units+60<cLine)(ha:JE X a ta)(hb:JE X b tb)(c:X.K=K:=by rfl):JE X (.Compare a [.Eq] [b] pos) (tOp (a5F K false) ta tb):=⟨a0v (b5Z K d c) ha.h hb.h (J5 _)⟩
theorem a0Y(K:PySem.W.Frag)(d:X.A.units+60<cLine)(ha:JE X a ta)(hb:JE X b tb)(c:X.K=K:=by rfl):JT X (.Compare a [.NotEq] [b] pos) (M9 (tOp (a5F K true) ta tb)):=⟨M3 (b5V K d c) ha.h hb.h (J5 _)⟩
theorem b6l(ha:JE X a ta)(hb:JE X b tb):JE X (.Compare a [.Is] [b] pos) (tOp (λx y H Q=>y=.non/\Q (.bl (decide (x=.non))) H) ta tb):=⟨a0v b1m ha.h hb.h (J5 _)⟩
theorem b6o(ha:JE X a ta)(hb:JE X b tb):JT X (.Compare a [.Is] [b] pos) (M9 (tOp (λx y H Q=>y=.non/\Q (.bl (decide (x=.non))) H) ta tb)):=⟨M3 b1m ha.h hb.h (J5 _)⟩
theorem a8i(ha:JE X a ta)(hb:JE X b tb):JT X (.Compare a [.IsNot] [b] pos) (M9 (tOp (λx y H Q=>y=.non/\Q (.bl (!decide (x=.non))) H) ta tb)):=⟨M3 b3G ha.h hb.h (J5 _)⟩
theorem Y0(k:Bool)(ha:JE X a ta)(hb:JE X b tb):JT X (.Compare a [.IsNot] [b] pos) (M9 (tOp (λx y H Q=>y=.bl k/\Q (.bl (!a7W x k)) H) ta tb)):=⟨M3 (a9h (b:=k)) ha.h hb.h (J5 _)⟩
theorem a4K(h:JW X e tA):JT X e tA:=⟨h.h.pt⟩
theorem a0x(ha:JT X a tA):JW X (.BoolOp .And [a] pos) tA:=⟨pw_and1 ha.h⟩
theorem a4J(ha:JT X a tA):JW X (.BoolOp .Or [a] pos) tA:=⟨pw_or1 ha.h⟩
theorem a2J(ha:JT X a tA)(hb:JW X (.BoolOp .And (b::rest) pos) tB):JW X (.BoolOp .And (a::b::rest) pos) (a8K tA tB):=⟨pw_and ha.h hb.h⟩
theorem a8h(ha:JT X a tA)(hb:JW X (.BoolOp .Or (b::rest) pos) tB):JW X (.BoolOp .Or (a::b::rest) pos) (tOr tA tB):=⟨pw_or ha.h hb.h⟩
theorem V8(ha:JT X a tA):JT X (.UnaryOp .Not a pos) (a8I tA):=⟨b5v ha.h⟩
theorem E2(K:PySem.W.Frag)(ha:JE X a ta)(c:∀b,isTrue a X.env b=(do let v <-b;standAt a.pos;holding [v] (truthy v)):=by intro _;rfl)(d:X.K=K:=by rfl):JT X a (a8G K ta):=⟨a9a K ha.h c d⟩
theorem jaN:JA X [] R9:=⟨b5R⟩
theorem jaC(ha:JE X e te)(a:JA X es t)(hs:starEach (e::es) X.env=(false,eval e X.env)::starEach es X.env:=by rfl):JA X (e::es) (U4 te t):=⟨b3E ha.h a.h hs⟩
theorem N2{x1}(h:JA X es t):JE X (.Tuple es x1 pos) (a5l t):=⟨b5G h.h⟩
theorem J1(h:JA X es t):JE X (.List es pos) (a5m t):=⟨b5L h.h⟩
theorem J2(K:PySem.W.Frag)(ha:JE X a ta)(hb:JE X b tb)(hs:a4Z b:=by intro _ _;rfl)(c:X.K=K:=by rfl):JE X (.Subscript a b pos) (tOp (a6O K) ta tb):=⟨b4O (b1S K c) ha.h hb.h hs⟩
theorem W2(K:PySem.W.Frag)(ha:JE X a ta)(hb:JE X b tb)(hs:a4Z b:=by intro _ _;rfl)(c:X.K=K:=by rfl):JE X (.Subscript a b pos) (tOp (b5q K) ta tb):=⟨b4O (b4d K c) ha.h hb.h hs⟩
theorem D9:JO X none G4:=⟨b3p⟩
theorem D8(h:JE X e te):JO X (some e) (a1l te):=⟨b3o h.h⟩
theorem b4V(K:PySem.W.Frag){lo hi:Option Expr}{tl th:TO}(a:JE X e te)(hl:JO X lo tl)(c:JO X hi th)(b:X.K=K:=by rfl):JE X (.Subscript e (.Slice lo hi none p2) pos) (tSl (b5p K) te tl th):=⟨a2u (b0A K b) a.h hl.h c.h⟩
theorem W1(K:PySem.W.Frag){lo hi:Option Expr}{tl th:TO}(a:JE X e te)(hl:JO X lo tl)(c:JO X hi th)(b:X.K=K:=by rfl):JE X (.Subscript e (.Slice lo hi none p2) pos) (tSl (a6N K) te tl th):=⟨a2u (b2Q K b) a.h hl.h c.h⟩
theorem A7{k:Nat}{ps:List Str}{sp:Sp}{x:Str}(O:Ok X.prog X.w X.K X.mg X.base x k ps sp)(c:Room k X.A)(d:Gl X x)(ha:JA X (e::es) t)(b:(x==("__debug__" : Str))=false:=by decide)
  (f:starEach (e::es) X.env=(false,eval e X.env)::starEach es X.env:=by rfl) (a:(backTo pos (starEach es X.env)).any (·.1)=false:=by rfl):JE X (.Call (.Name x p) (e::es) [] pos) (a2d sp [] E0 t):=⟨b1j O c d ha.h b f a⟩
theorem L3(K:PySem.W.Frag)(d:Gl X "len")(b:X.mg "len"=none)(ha:JA X (e::es) t)(c:X.K=K:=by rfl)(f:starEach (e::es) X.env=(false,eval e X.env)::starEach es X.env:=by rfl)(a:(backTo pos (starEach es X.env)).any (·.1)=false:=by rfl):JE X (.Call (.Name "len" p) (e::es) [] pos) (tCB (b7f K) t):=⟨E9 (a9Q K c) d b b2w ha.h (by decide) (by decide) f a⟩
theorem b1M(K:PySem.W.Frag)(d:Gl X "sum")(b:X.mg "sum"=none)(ha:JA X (e::es) t)(hc:X.calm=true:=by rfl)(c:X.K=K:=by rfl)(f:starEach (e::es) X.env=(false,eval e X.env)::starEach es X.env:=by rfl)(a:(backTo pos (starEach es X.env)).any (·.1)=false:=by rfl):JE X (.Call (.Name "sum" p) (e::es) [] pos) (tCB (b5n K) t):=⟨E9 (a9L K hc c) d b b6J ha.h (by decide) (by decide) f a⟩
theorem P6(K:PySem.W.Frag)(d:Gl X "all")(b:X.mg "all"=none)(ha:JA X (e::es) t)(hc:X.calm=true:=by rfl)(c:X.K=K:=by rfl)(f:starEach (e::es) X.env=(false,eval e X.env)::starEach es X.env:=by rfl)(a:(backTo pos (starEach es X.env)).any (·.1)=false:=by rfl):JE X (.Call (.Name "all" p) (e::es) [] pos) (tCB (b5u K) t):=⟨E9 (a9V K hc c) d b b6N ha.h (by decide) (by decide) f a⟩
theorem b6q(K:PySem.W.Frag)(d:Gl X "any")(b:X.mg "any"=none)(ha:JA X (e::es) t)(hc:X.calm=true:=by rfl)(c:X.K=K:=by rfl)(f:starEach (e::es) X.env=(false,eval e X.env)::starEach es X.env:=by rfl)(a:(backTo pos (starEach es X.env)).any (·.1)=false:=by rfl):JE X (.Call (.Name "any" p) (e::es) [] pos) (tCB (b5t K) t):=⟨E9 (a9U K hc c) d b b6M ha.h (by decide) (by decide) f a⟩
theorem K5(K:PySem.W.Frag)(d:Gl X "isinstance")(b:X.mg "isinstance"=none)(ha:JA X (e::es) t)(c:X.K=K:=by rfl)(f:starEach (e::es) X.env=(false,eval e X.env)::starEach es X.env:=by rfl)(a:(backTo pos (starEach es X.env)).any (·.1)=false:=by rfl):JE X (.Call (.Name "isinstance" p) (e::es) [] pos) (tCB (b5r K) t):=⟨E9 (a9R K c) d b a3q ha.h (by decide) (by decide) f a⟩
theorem b6p(b:Gl X "max")(d:X.mg "max"=none)(ha:JA X (e::es) t)(hc:X.calm=true:=by rfl)(c:starEach (e::es) X.env=(false,eval e X.env)::starEach es X.env:=by rfl)(a:(backTo pos (starEach es X.env)).any (·.1)=false:=by rfl):JE X (.Call (.Name "max" p) (e::es) [] pos) (tCB (a8X) t):=⟨E9 (a9N hc) b d b6L ha.h (by decide) (by decide) c a⟩
theorem B8(K:PySem.W.Frag)(d:Gl X "tuple")(b:X.mg "tuple"=none)(ha:JA X (e::es) t)(c:X.K=K:=by rfl)(f:starEach (e::es) X.env=(false,eval e X.env)::starEach es X.env:=by rfl)(a:(backTo pos (starEach es X.env)).any (·.1)=false:=by rfl):JE X (.Call (.Name "tuple" p) (e::es) [] pos) (tCB (a4z K) t):=⟨Q8 (a6m K c) d b a3c ha.h (by decide) (by decide) f a⟩
theorem b4a(K:PySem.W.Frag)(d:Gl X "list")(b:X.mg "list"=none)(ha:JA X (e::es) t)(c:X.K=K:=by rfl)(f:starEach (e::es) X.env=(false,eval e X.env)::starEach es X.env:=by rfl)(a:(backTo pos (starEach es X.env)).any (·.1)=false:=by rfl):JE X (.Call (.Name "list" p) (e::es) [] pos) (tCB (b4L K) t):=⟨Q8 (a7r K c) d b b4t ha.h (by decide) (by decide) f a⟩
theorem b1P(b:Gl X "int")(d:X.mg "int"=none)(ha:JA X (e::es) t)(c:starEach (e::es) X.env=(false,eval e X.env)::starEach es X.env:=by rfl)(a:(backTo pos (starEach es X.env)).any (·.1)=false:=by rfl):JE X (.Call (.Name "int" p) (e::es) [] pos) (tCB (b7g) t):=⟨Q8 a9S b d b2x ha.h (by decide) (by decide) c a⟩
theorem Y5(K:PySem.W.Frag)(f:JE X o to)(ha:JA X (e::es) t)(g:X.K=K:=by rfl)(c:attributeBase o "append" X.env (eval o X.env)=eval o X.env:=by rfl)
  (d:((backTo cpos (starEach (e::es) X.env)).all (λx=>!x.1) && (backToKw cpos (keywordEach [] X.env)).all (λx=>x.1.isSome) && decide ((e::es).length+([]:List Keyword).length+(if ([]:List Keyword).isEmpty then 0 else 1)<30))=true:=by rfl)
  (b:(apos.endLine==cpos.line)=true:=by rfl) (hs:starEach (e::es) X.env=(false,eval e X.env)::starEach es X.env:=by rfl) (a:(backTo cpos (starEach es X.env)).any (·.1)=false:=by rfl) :
  JE X (.Call (.Attribute o "append" apos) (e::es) [] cpos) (tBM K "list" a8a to t):=⟨a6T K PySem.F.plainAttrs_list PySem.F.slot_list_append PySem.F.type_list_append a9p f.h ha.h g c d b hs a⟩
theorem b1K(K:PySem.W.Frag)(f:JE X o to)(ha:JA X (e::es) t)(g:X.K=K:=by rfl)(c:attributeBase o "pop" X.env (eval o X.env)=eval o X.env:=by rfl)
  (d:((backTo cpos (starEach (e::es) X.env)).all (λx=>!x.1) && (backToKw cpos (keywordEach [] X.env)).all (λx=>x.1.isSome) && decide ((e::es).length+([]:List Keyword).length+(if ([]:List Keyword).isEmpty then 0 else 1)<30))=true:=by rfl)
  (b:(apos.endLine==cpos.line)=true:=by rfl) (hs:starEach (e::es) X.env=(false,eval e X.env)::starEach es X.env:=by rfl) (a:(backTo cpos (starEach es X.env)).any (·.1)=false:=by rfl) :
  JE X (.Call (.Attribute o "pop" apos) (e::es) [] cpos) (tBM K "list" b0R to t):=⟨a6T K PySem.F.plainAttrs_list PySem.F.slot_list_pop PySem.F.type_list_pop b1B f.h ha.h g c d b hs a⟩
theorem a3M(K:PySem.W.Frag)(f:JE X o to)(ha:JA X (e::es) t)(g:X.K=K:=by rfl)(c:attributeBase o "extend" X.env (eval o X.env)=eval o X.env:=by rfl)
  (d:((backTo cpos (starEach (e::es) X.env)).all (λx=>!x.1) && (backToKw cpos (keywordEach [] X.env)).all (λx=>x.1.isSome) && decide ((e::es).length+([]:List Keyword).length+(if ([]:List Keyword).isEmpty then 0 else 1)<30))=true:=by rfl)
  (b:(apos.endLine==cpos.line)=true:=by rfl) (hs:starEach (e::es) X.env=(false,eval e X.env)::starEach es X.env:=by rfl) (a:(backTo cpos (starEach es X.env)).any (·.1)=false:=by rfl) :
  JE X (.Call (.Attribute o "extend" apos) (e::es) [] cpos) (tBM K "list" a7Z to t):=⟨a6T K PySem.F.plainAttrs_list PySem.F.slot_list_extend PySem.F.type_list_extend a9o f.h ha.h g c d b hs a⟩
theorem A8{i:Nat}{x:Str}(b:X.N.Nodup)(hi:X.N[i]?=some x)(a:Loc X.env.scope x)(hf:X.fn x=true∨X.env.scope.names.lookup x=some .local:=by first|exact .inl rfl|exact .inr rfl|assumption):JG X (.Name x pos) (A9 i):=⟨b3y b hi a hf⟩
theorem M6:JGs X [] a7j:=⟨b3w⟩
theorem B4{g:TG}{u:TGs}(h1:JG X e g)(h2:JGs X es u)(hs:(assignEach (e::es) X.env).map (·.2)=assign e X.env::(assignEach es X.env).map (·.2):=by rfl):JGs X (e::es) (U6 g u):=⟨b1e h1.h h2.h hs⟩
theorem T3(K:PySem.W.Frag)(n:Nat){k:Nat}{u:TGs}(h:JGs X es u)(hc:X.calm=true:=by rfl)(b:X.K=K:=by rfl)(c:(assignEach es X.env).length=n:=by rfl)(a:(assignEach es X.env).findIdx? (·.1)=none:=by rfl):JG X (.Tuple es k pos) (a6b K n u):=⟨b3x K hc h.h b c a⟩
theorem b1L{i:Expr}{ti:TE}(a:JE X o to)(hi:JE X i ti)
  (ha:∀v,assign (.Subscript o i pos) X.env v=(do
   let ov <-holding [v] (eval o X.env)
   let iv <-holding [v,ov] (eval i X.env)
   standAt pos
   holding [v,ov,iv] (setItem ov iv v)
   release [v,ov,iv] []):=by intro _;rfl):JG X (.Subscript o i pos) (b7D to ti b0Q):=⟨b5F a.h hi.h a5y ha⟩
theorem E6(K:PySem.W.Frag){tg l:Expr}{tl:TE}(hl:JE X l tl)(a:X.K=K:=by rfl):JI X tg l (b1V K tl):=⟨b1d K hl.h a⟩
theorem L1(K:PySem.W.Frag){tg l:Expr}{tl:TE}(hl:JE X l tl)(a:X.K=K:=by rfl):JI X tg l (b6A K tl):=⟨b3t K hl.h a⟩
theorem a2K(K:PySem.W.Frag){e:Nat}{d:Pos}(i:Gl X "zip")(f:X.mg "zip"=none)(ha:JA X [a,b] t)(g:X.K=K:=by rfl)(hs:starEach [a,b] X.env=[(false,eval a X.env),(false,eval b X.env)]:=by rfl)(c:starEach [b] X.env=[(false,eval b X.env)]:=by rfl) :
  JI X (.Tuple es e d) (.Call (.Name "zip" p) [a,b] [] pos) (b6z K t):=⟨b3s K i f ha.h g hs c⟩
theorem J7{tg:Expr}(b:Gl X "range")(c:X.mg "range"=none)(ha:JA X [a] t)(hs:starEach [a] X.env=[(false,eval a X.env)]:=by rfl):JI X tg (.Call (.Name "range" p) [a] [] pos) (b4Y t):=⟨a9d b c ha.h hs⟩
theorem D4:JF X [] K7:=⟨b3r⟩
theorem W0(h:JT X c tA):JF X [c] tA:=⟨b3q h.h⟩
theorem C0{tg a c:Expr}{d:List Expr}{scope:Scope}{N:List Str}{src:List (Option Nat)}{wi:TI}{g:TG}{i:TT}(hi:JI X tg a wi)(b:B7 scope X.env.scope=true)(e:L6 N src X.N scope=true)(f:a4v scope=true)
  (k:∀cells C s H ex,JG (X.blk N scope cells C s H ex) tg g) (j:∀cells C s H ex,JF (X.blk N scope cells C s H ex) d i) (l:∀cells C s H ex,JE (X.blk N scope cells C s H ex) c te)
  (hc:X.calm=true:=by rfl) (hs:∀x,foldedSetIterable a X.env x=pure x:=by intro _;rfl):JE X (.ListComp c [⟨tg,a,d,0⟩] scope pos) (a5n src wi g i te) :=
 ⟨b3B hc hi.h b e f (λ_ _ _ _ _=>(k _ _ _ _ _).h) (λ_ _ _ _ _=>(j _ _ _ _ _).h) (λ_ _ _ _ _=>(l _ _ _ _ _).h) hs⟩
variable {st:Stmt}{sts:List Stmt}{u v:TS}
theorem C8:JB X [] a3w:=⟨b3i⟩
theorem A3(h1:JS X st u)(h2:JB X sts v):JB X (st::sts) (a6y u v):=⟨b0U h1.h h2.h⟩
theorem A4(h1:JS X st u):JB X [st] u:=⟨b3h h1.h⟩
theorem b1J:JS X (.Break pos) b0n:=⟨b0Y⟩
theorem B0(a:JE X e te):JS X (.Return (some e) pos) (a6z te):=⟨b5y a.h⟩
theorem T0(a:JE X e te)(hs:swapsWith e none pos.line X.env=pure false:=by rfl):JS X (.Expr e pos) (a3x te):=⟨b3k a.h hs⟩
theorem E8{A B:List Stmt}(hc:JT X c tA)(ha:JB X A u)(hb:JB X B v):JS X (.If c A B pos) (a8J tA u v):=⟨b7j hc.h ha.h hb.h⟩
theorem a5Z{B:List Stmt}(hc:JT X c tA)(hb:JB X B v)(hp:PassesOwn (model X.prog X.w) X.A X.env X.xe:=by exact PassesOwn.never):JS X (.While c B [] pos) (b0j tA v):=⟨b0V hp hc.h hb.h⟩
theorem N1{tg a:Expr}{B:List Stmt}{wi:TI}{g:TG}(hi:JI X tg a wi)(b:JG X tg g)(hb:JB X B v)(hp:PassesOwn (model X.prog X.w) X.A X.env X.xe:=by exact PassesOwn.never)(hc:X.calm=true:=by rfl)
  (hs:∀x,foldedSetIterable a X.env x=pure x:=by intro _;rfl):JS X (.For tg a B [] pos) (b7b wi g v):=⟨b5z hp hc hi.h b.h hb.h hs⟩
theorem B2{i:Nat}{x:Str}{pos':Pos}(b:X.N.Nodup)(hi:X.N[i]?=some x)(a:Loc X.env.scope x)(c:JE X e te)(hs:swapsWith e (some (.Name x pos')) pos.line X.env=pure false:=by rfl)
  (hf:X.fn x=true∨X.env.scope.names.lookup x=some .local:=by first|exact .inl rfl|exact .inr rfl|assumption):JS X (.Assign [.Name x pos'] e pos) (a3e te (A9 i)):=⟨b5x b hi a c.h hs hf⟩
theorem a1U{i:Nat}{y:Str}{n b:Pos}{tg a c:Expr}{d:List Expr}{scope:Scope}{N:List Str}{src:List (Option Nat)}{wi:TI}{g:TG}{m:TT}
  (q:X.N.Nodup) (p:X.N[i]?=some y) (o:Loc X.env.scope y) (hi:JI X tg a wi) (e:B7 scope X.env.scope=true) (f:L6 N src X.N scope=true) (k:a4v scope=true)
  (t:∀cells C s H ex,JG (X.blk N scope cells C s H ex) tg g) (r:∀cells C s H ex,JF (X.blk N scope cells C s H ex) d m) (j:∀cells C s H ex,JE (X.blk N scope cells C s H ex) c te)
  (hc:X.calm=true:=by rfl) (l:swapsWith (.ListComp c [⟨tg,a,d,0⟩] scope pos) (some (.Name y n)) b.line X.env=pure true:=by rfl) (hs:∀x,foldedSetIterable a X.env x=pure x:=by intro _;rfl)
  (hf:X.fn y=true∨X.env.scope.names.lookup y=some .local:=by first|exact .inl rfl|exact .inr rfl|assumption) :
  JS X (.Assign [.Name y n] (.ListComp c [⟨tg,a,d,0⟩] scope pos) b) (a3e (a5n src wi g m te) (A9 i)) :=
 ⟨b3j q p o hc hi.h e f k (λ_ _ _ _ _=>(t _ _ _ _ _).h) (λ_ _ _ _ _=>(r _ _ _ _ _).h) (λ_ _ _ _ _=>(j _ _ _ _ _).h) l hs hf⟩
theorem a4L{tg:Expr}{g:TG}(b:JE X e te)(a:JG X tg g)(hs:swapsWithSole [tg] e pos.line X.env=pure false:=by rfl)(hw:swappedStores [tg] e X.env=pure none:=by rfl)
  (h1:(assignEach [tg] X.env).map (·.2)=[assign tg X.env]:=by rfl):JS X (.Assign [tg] e pos) (a3e te g):=⟨b5B b.h a.h hs hw h1⟩
theorem a7d(K:PySem.W.Frag){i:Expr}{ti:TE}{tpos:Pos}(c:JE X o to)(hi:JE X i ti)(f:JE X e te)(d:X.K=K:=by rfl)
  (ha:∀b a new,augStore i b a new=(do holding [new,b,a] (setItem b a new);release [new,b,a] [];pure .next):=by intros;rfl):JS X (.AugAssign (.Subscript o i tpos) .Add e pos) (b4E to ti te (a6O K) (ipI λi j=>i+j) b0Q):=⟨b3m c.h hi.h (a9A K d) f.h b6x a5y ha⟩
end
section
variable {P:Program}{w:World}{K:PySem.W.Frag}{mg:Str->Option Value}{base:Heap}
theorem FunAt.okJ{x:Str}{st:Stmt}{N ps:List Str}{k:Nat}{sp:Sp}(F:FunAt K mg x st ps)(S:FnScope N ps (A1 st))(len:∀vs H Q E,sp vs H Q E->vs.length=ps.length)
  (b:∀(a:Value) (f:Addr) (A:Around) (outer:List Env) (s:Shared) (H:Hp) (vs:List V) (Q:VK) (E:XK),Room k (A.deeper (envOfC x (A1 st) s.heap.objs.size f a))->sp vs H Q E ->
   ∃t,JB (V0 CX0 P w K mg base N x (A1 st) f a A outer s H E).nox (E1 st) t/\t {nx:=λ_ H'=>Q .non H',rt:=Q} (start N vs) H):Ok P w K mg base x (k+1) ps sp :=
 F.ok S len λa f A outer s H vs Q E c h=>let ⟨t,d,r⟩:=b a f A outer s H vs Q E c h;⟨t,d.h,r⟩
theorem Fun.okJ{x qual:Str}{st:Stmt}{f:Addr}{fd:FuncData}{N ps:List Str}{k:Nat}{sp:Sp}(F:Fun K x qual st f fd)(S:FnScope N ps (A1 st))(len:∀vs H Q E,sp vs H Q E->vs.length=ps.length)
  (b:∀(a:Value) (A:Around) (outer:List Env) (s:Shared) (H:Hp) (vs:List V) (Q:VK) (E:XK),Room k (A.deeper (envOfC qual (A1 st) s.heap.objs.size f a))->sp vs H Q E ->
   ∃t,JB (V0 CX0 P w K mg base N qual (A1 st) f a A outer s H E).nox (E1 st) t/\t {nx:=λ_ H'=>Q .non H',rt:=Q} (start N vs) H):FnOk P w K mg base CX0 (k+1) f fd ps sp :=
 F.ok S len λa A outer s H vs Q E c h=>let ⟨t,d,r⟩:=b a A outer s H vs Q E c h;⟨t,d.h,r⟩
end
def a7Q(K:PySem.W.Frag):Sp:=λvs H Q _=>∃(a:Addr) (ns:List Int),vs=[.ref a]/\SqL K H a (ns.map V.int)/\ns.length<=63/\∀H',Q (.bl true) H'
theorem law_walk{l:PySem.W.OpenLaw}{q:Program}{b:List Str}{XP:(Str->Option Value)->Heap->Prop}{g:World->Heap->Prop}{d:DefRec}{K:Params->PySem.W.Frag}(k:Nat)(o:l.most=some 63)(c:d.params.defaults=[])(j:Room k callerA)
  (i:∀(w:World) (h:Heap),g w h->(K w.params).In h)
  (F:∀(w:World) (mg:Str->Option Value) (e:Addr) (h:Heap),(K w.params).In h->h.Ns mainGlobals mg->mg d.name=some (.ref e) ->
   ∃fd:FuncData,(∀(s:Shared) (u:Value),BindsTo s fd ⟨[u],[]⟩ [("_law_script",u)])/\∀base:Heap,(K w.params).In base->base.Ns mainGlobals mg->FnOk l.prog w (K w.params) mg base CX0 k e fd ["_law_script"] (a7Q (K w.params))) :
  PySem.W.WalkO q b XP g l.row.toRowW d [] (λf vs=>PySem.call f vs) :=
 L2.walk_of (n:=63) (k:=k) (x:="_law_script") (CX:=λ_=>CX0) (sp:=λw=>a7Q (K w.params)) o (by decide) c j i F (λ_ _ a ns hl _ m=>⟨a,ns,rfl,m,hl,λ_=>rfl⟩) λ_ _ _ _ _ z=>z
def Its(H:Hp)(vs:List V)(rss:LLI):Prop:=vs.length=rss.length/\∀(i:Nat) (v:V),vs[i]?=some v->∃r,rss[i]?=some r/\IT H v r
theorem Its.same{H H':Hp}{vs:List V}{rss:LLI}(h:Its H vs rss)(s:Same H H'):Its H' vs rss:=⟨h.1,λi v e=>let ⟨r,e1,e2⟩:=h.2 i v e;⟨r,e1,e2.same s⟩⟩
theorem Its.nil{H:Hp}:Its H [] []:=⟨rfl,λi v e=>by simp at e⟩
theorem Its.snoc{H:Hp}{vs:List V}{rss:LLI}{v:V}{r:List Int}(h:Its H vs rss)(c:IT H v r):Its H (vs++[v]) (rss++[r]):=by
 refine⟨by simp[h.1],λi u e=>?_⟩;by_cases hi:i<vs.length
 .rw[List.getElem?_append_left hi]at e;obtain⟨q,b,d⟩:=h.2 i u e;exact⟨q,by rw[List.getElem?_append_left (by rw[<-h.1];exact hi)];exact b,d⟩
 .rw[List.getElem?_append_right (by omega)]at e;have a:i-vs.length=0:=by
   have:=(List.getElem?_eq_some_iff.mp e).1;simp at this;omega
  rw[a]at e;simp at e;subst e;refine⟨r,?_,c⟩;rw[List.getElem?_append_right (by rw[<-h.1];omega),<-h.1,a];rfl
theorem Its.mem{H:Hp}{vs:List V}{rss:LLI}{v:V}{i:Nat}(h:Its H vs rss)(e:vs[i]?=some v):∃r,r∈rss/\rss[i]?=some r/\IT H v r :=
 let ⟨r,e1,e2⟩:=h.2 i v e
 ⟨r,List.mem_of_getElem? e1,e1,e2⟩
theorem a3r{K:PySem.W.Frag}{src:List (Option Nat)}{σ caps:St}{Q:VK}{k1 k2:Bool}{a b:Addr}{xs ys:List Int}{H:Hp}{te:TE}(f:Int->Int->V)(hl:xs.length<=1000)
  (c:∀H',Same H H'->SqK k1 K H' a (xs.map V.int)/\SqK k2 K H' b (ys.map V.int))
  (g:B1 src σ=none::none::caps) (n:∀x y H1 o,x∈xs->y∈ys->Same H H1->o (f x y) H1->te (some (.int x)::some (.int y)::caps) H1 o)
  (hd:∀H1 p,Same H H1->H1 p=none->Q (.ref p) (upd H1 p (.lst (List.zipWith f xs ys)))) :
  E5 src (a6b K 2 (U6 (A9 0) (U6 (A9 1) a7j))) K7 te σ Q (Itz K k1 k2 a b) H:=by
 have t:(1000:Nat)<=sizeLine:=by rw[sizeLine_eq];decide
 refine a0B (xs:=xs.map V.int) (zs:=ys.map V.int) (by rw[K4];omega) (λi zs H'=>Same H H'/\zs=(List.zipWith f xs ys).take i) ⟨Same.refl H,by simp⟩ (λi zs H' _ _ h=>⟨(c H' h.1).1,(c H' h.1).2,by rw[h.2];exact List.length_take_le _ _⟩) ?_ ?_
 .rintro i x z zs H' p hx hy ⟨s,rfl⟩ hp;obtain⟨m,l,q⟩:=Y7 hx;obtain⟨d,k,r⟩:=Y7 hy;subst q r;clear hx hy;have s':Same H (upd H' p (.tup [.int m,.int d])):=s.upd hp;refine⟨p,[.int m,.int d],rfl,SqT.of A0,rfl,.int m,[.int d],rfl,.int d,[],rfl,rfl,?_⟩;rw[g];show Sub _ (some (.int m)::some (.int d)::caps)/\_;refine⟨⟨rfl,λj v e=>?_⟩,?_⟩
  .match j,e with
   |0,e=>cases e
   |1,e=>cases e
   |j+2,e=>exact e
  .exact n m d _ _ (List.mem_of_getElem? l) (List.mem_of_getElem? k) s' ⟨s',(L7 f l k).symm⟩
 .rintro zs H' ⟨s,rfl⟩ p hp;have e:(List.zipWith f xs ys).take (min (xs.map V.int).length (ys.map V.int).length)=List.zipWith f xs ys:=by
   rw[K4,K4,List.take_of_length_le];rw[List.length_zipWith];exact Nat.le_refl _
  rw[e];exact hd H' p s hp
theorem b2J{K:PySem.W.Frag}{src:List (Option Nat)}{σ caps:St}{Q:VK}{a:Addr}{vs:List V}{rss:LLI}{H:Hp}{te:TE}(f:List Int->V)(hl:vs.length<=1000)(b:∀H',Same H H'->SqT K H' a vs)(hI:Its H vs rss)(c:B1 src σ=none::caps)
  (e:∀v r H1 j,r∈rss->IT H1 v r->Same H H1->(∀H2,Same H1 H2->j (f r) H2)->te (some v::caps) H1 j) (hd:∀H1 p,Same H H1->H1 p=none->Q (.ref p) (upd H1 p (.lst (rss.map f)))):E5 src (A9 0) K7 te σ Q (Itt K a) H:=by
 have l:(1000:Nat)<=sizeLine:=by rw[sizeLine_eq];decide
 refine R1 (xs:=vs) (by omega) (λi ys H'=>Same H H'/\ys=(rss.take i).map f) ⟨Same.refl H,by simp⟩ (λi ys H' _ h=>⟨b H' h.1,by rw[h.2,List.length_map];exact List.length_take_le _ _⟩) ?_ ?_
 .rintro i x ys H' hx ⟨s,rfl⟩;obtain⟨r,k,d,g⟩:=hI.mem hx;show Sub _ ((B1 src σ).set 0 (some x))/\_;rw[c];refine⟨Sub.one,e x r H' _ k (g.same s) s λH2 s2=>⟨s.trans s2,?_⟩⟩;rw[List.take_add_one,d];simp
 .rintro ys H' ⟨s,rfl⟩ p hp;rw[hI.1,List.take_length];exact hd H' p s hp
theorem a9Z{K:PySem.W.Frag}{src:List (Option Nat)}{σ caps:St}{Q:VK}{k1 k2:Bool}{a b:Addr}{xs:List Int}{us:List V}{rss:LLI}{H:Hp}{te:TE}(f:Int->List Int->V)(hl:xs.length<=1000)
  (c:∀H',Same H H'->SqK k1 K H' a (xs.map V.int)/\SqK k2 K H' b us) (hI:Its H us rss)
  (d:B1 src σ=none::none::caps) (m:∀x v r H1 o,x∈xs->r∈rss->IT H1 v r->Same H H1->o (f x r) H1->te (some (.int x)::some v::caps) H1 o)
  (hd:∀H1 p,Same H H1->H1 p=none->Q (.ref p) (upd H1 p (.lst (List.zipWith f xs rss)))) :
  E5 src (a6b K 2 (U6 (A9 0) (U6 (A9 1) a7j))) K7 te σ Q (Itz K k1 k2 a b) H:=by
 have u:(1000:Nat)<=sizeLine:=by rw[sizeLine_eq];decide
 refine a0B (xs:=xs.map V.int) (zs:=us) (by rw[K4];omega) (λi zs H'=>Same H H'/\zs=(List.zipWith f xs rss).take i) ⟨Same.refl H,by simp⟩ (λi zs H' _ _ h=>⟨(c H' h.1).1,(c H' h.1).2,by rw[h.2];exact List.length_take_le _ _⟩) ?_ ?_
 .rintro i x z zs H' p hx hy ⟨s,rfl⟩ hp;obtain⟨k,g,t⟩:=Y7 hx;subst t;obtain⟨r,q,l,n⟩:=hI.mem hy;have s':Same H (upd H' p (.tup [.int k,z])):=s.upd hp;refine⟨p,[.int k,z],rfl,SqT.of A0,rfl,.int k,[z],rfl,z,[],rfl,rfl,?_⟩;rw[d];show Sub _ (some (.int k)::some z::caps)/\_;refine⟨⟨rfl,λj v e=>?_⟩,?_⟩
  .match j,e with
   |0,e=>cases e
   |1,e=>cases e
   |j+2,e=>exact e
  .exact m k z r _ _ (List.mem_of_getElem? g) q (n.same s') s' ⟨s',(L7 f g l).symm⟩
 .rintro zs H' ⟨s,rfl⟩ p hp;have e:(List.zipWith f xs rss).take (min (xs.map V.int).length us.length)=List.zipWith f xs rss:=by
   rw[K4,hI.1,List.take_of_length_le];rw[List.length_zipWith];exact Nat.le_refl _
  rw[e];exact hd H' p s hp
theorem a6L{src:List (Option Nat)}{σ caps:St}{Q:VK}{n:Nat}{H:Hp}{d:TT}(t:Nat->Bool)(f:n<=1000)(a:B1 src σ=none::caps)(b:∀(i:Nat) H1 (c:Bool->Hp->Prop),i<n->Same H H1->(∀H2,Same H1 H2->c (t i) H2)->d (some (.int i)::caps) H1 c)
  (hd:∀H1 p,Same H H1->H1 p=none->Q (.ref p) (upd H1 p (.lst ((((List.range n).filter t).map λ(i:Nat)=>(i:Int)).map V.int)))):E5 src (A9 0) d (L8 0) σ Q (Itr 0 n) H:=by
 refine a0s f a (λi ys H'=>Same H H'/\ys=(((List.range i).filter t).map λ(i:Nat)=>(i:Int)).map V.int) ⟨Same.refl H,rfl⟩ (λi ys H' h=>by rw[h.2,List.length_map,List.length_map];exact Nat.le_trans (List.length_filter_le _ _) (by simp)) ?_ ?_
 .rintro i ys H' hi ⟨s,rfl⟩;refine b i H' _ hi s λH2 s2=>?_;rw[List.range_succ,List.filter_append];cases e:t i with
  |true=>exact⟨_,rfl,s.trans s2,by simp[e]⟩
  |false=>exact⟨s.trans s2,by simp[e]⟩
 .rintro ys H' ⟨s,rfl⟩ p hp;exact hd H' p s hp
end L2
namespace L2
open PySem PySem.Spec PyProof.Rows PySem.W
noncomputable def b2g(p C:Addr):HO:=.ext λh=>∃o,h.get? p=some o/\o.cls=.ref C
theorem ObjOk.there{P:Program}{w:World}{H:Hp}{h:Heap}{a:Addr}{o:HO}(x:ObjOk P w H h a o):∃u,h.get? a=some u:=by
 induction o with
 |lst xs=>obtain⟨_,_,_,_,e⟩:=x;exact⟨_,e⟩
 |tup xs=>obtain⟨_,_,_,b,e,_⟩:=x;exact⟨_,e⟩
 |dK kvs=>obtain⟨_,_,_,_,o,_,_,e,_⟩:=x;exact⟨_,e⟩
 |dT kvs=>obtain⟨_,_,_,_,o,_,_,e,_⟩:=x;exact⟨_,e⟩
 |set S n=>obtain⟨o,_,_,_,e,_⟩:=x;exact⟨_,e⟩
 |ins C dx fs=>obtain⟨_,_,_,e,_⟩:=x;exact⟨_,e⟩
 |own y=>obtain⟨_,e⟩:=x;exact⟨_,e⟩
 |xd fs=>obtain⟨_,⟨_,_,_,e,_⟩,_⟩:=x;exact⟨_,e⟩
 |rng lo hi=>obtain⟨_,_,_,e⟩:=x;exact⟨_,e⟩
 |frz b u ih=>obtain⟨e,_⟩:=x;exact⟨_,e⟩
 |tbl ps=>exact⟨_,x⟩
 |met f y=>exact⟨_,x⟩
 |ext φ=>exact x.2.1
def Cov(l:List Env)(H:Hp)(h0 h B:Heap):Prop:=∀b o,h.get? b=some o->b∉frs l->(H b≠none∨∃o',h0.get? b=some o')->B.get? b=some o
theorem a2T{P:Program}{w:World}{l:List Env}{H H':Hp}{h0 h1 h2 B base:Heap}(d:Un (frs l) [] H H' h0 h1)(hok:HOk P w H' h1)(c:Cov l H' h0 h1 B)(st:B.StaysIn h2)(up:h1.UpToSlots h2)(m:h1.FunFrames base l)(hf:∀b∈frs l,H' b=none) :
  Un (frs l) [] H H' h0 h2/\HOk P w H' h2/\Cov l H' h0 h2 B:=by
 have t:∀b,H' b≠none->b∉frs l:=λb n hb=>n (hf b hb);refine⟨⟨?_,?_,d.free,?_,d.tups,d.frzs,d.tbls⟩,?_,?_⟩
 .intro b o e n hb hx;exact st b o (c b o (d.keep b o e n hb hx) hb (.inr ⟨o,e⟩))
 .intro b o e n hb hx;obtain⟨sl,q⟩:=d.slot b o e n hb hx;obtain⟨_,s,h,k⟩:=m.mem hb;rw[q]at h;cases h;obtain⟨i,g⟩:=up b _ q k;exact⟨i,g⟩
 .intro b o e hx;obtain⟨f,q⟩:=d.there b o e hx;by_cases hb:b∈frs l
  .obtain⟨_,s,h,k⟩:=m.mem hb;rw[q]at h;cases h;obtain⟨i,g⟩:=up b _ q k;exact⟨_,g⟩
  .exact⟨f,st b f (c b f q hb (.inr ⟨o,e⟩))⟩
 .intro a o e;refine(hok a o e).stay (λb u hb q=>?_) (λ_ q=>q) λ_ _ q=>q;have j:H' b≠none:=by
   rcases hb with rfl|hb
   .rw[e];intro z;cases z
   .rw[hb];intro z;cases z
  exact st b u (c b u q (t b j) (.inl j))
 .intro b o e hb ho;have ex:∃f,h1.get? b=some f:=by
   rcases ho with j|⟨o',q⟩
   .cases eq:H' b with
    |none=>exact absurd eq j
    |some u=>exact(hok b u eq).there
   .exact d.there b o' q (by simp)
  obtain⟨f,r⟩:=ex;have g:=c b f r hb ho;have p:=st b f g;rw[e]at p;cases p;exact g
def CXE(P:Program)(w:World):CXT:=λouter H s E e s' =>
 ∃(p C:Addr) (H':Hp) (B:Heap) (a0:Value),e=.ref p/\s'.os=s.os/\AllBare s'.gens/\Un (frs outer) [] H H' s.heap s'.heap/\HOk P w H' s'.heap /\
  H' p=none/\Heap.FlyingW B outer p (.ref C) a0 s'.heap/\Cov outer H' s.heap s'.heap B/\E (.ref C) none H'
def b0l(C:Addr)(E:XK)(t:TA):TS:=λ_ σ H=>t σ H λvs H1=>vs.length<=sizeLine/\E (.ref C) none H1
theorem b0X{P:Program}{w:World}{K:PySem.W.Frag}{mg:Str->Option Value}{base:Heap}{N:List Str}{qual:Str}{scope:Scope}{f:Addr}{cd:Value}{A:Around}{outer:List Env}{s0:Shared}{j:Hp}{E:XK}
  {x:Str}{C:Addr}{bmB R:List Value}{B Bn newId F c S:String}{e:Expr}{es:List Expr}{t:TA}{np cpos pos:Pos}
  (O:OwnCls x C bmB newId mg base) (Fn:ExcBaseFacts Bn newId S R) (J:bmB.contains (.type Bn)=true) (X:ExcBaseFacts B F c bmB)
  (hg:Gl (V0 (CXE P w) P w K mg base N qual scope f cd A outer s0 j E) x)
  (ha:PA (V0 (CXE P w) P w K mg base N qual scope f cd A outer s0 j E) (e::es) t) (hd:(x==("__debug__" : Str))=false:=by decide)
  (m:starEach (e::es) (envOfC qual scope s0.heap.objs.size f cd)=(false,eval e (envOfC qual scope s0.heap.objs.size f cd))::starEach es (envOfC qual scope s0.heap.objs.size f cd):=by rfl)
  (G:(backTo cpos (starEach es (envOfC qual scope s0.heap.objs.size f cd))).any (·.1)=false:=by rfl) :
  PS (V0 (CXE P w) P w K mg base N qual scope f cd A outer s0 j E) (.Raise (some (.Call (.Name x np) (e::es) [] cpos)) none pos) (b0l C E t):=by
 intro pins s σ H D I h;obtain⟨tl,NC,nm,q,bs,hdct,sn,sub,ab,col,dd,k0,k1,k2,k3,k5,mN,hC,hN,y,T⟩:=O.obj;refine wpAny_Raise_call_subU (C:=C) (nm:=nm) (q:=q) (N:=NC) (bs:=bs) (bm:=tl) (hdct:=hdct) (sn:=sn) (sub:=sub) (ab:=ab) (col:=col) (dd:=dd) (k0:=k0) (k1:=k1) (k2:=k2) (k3:=k3) (k5:=k5)
  Fn J X (mN:=mN) (T.hasType X.hasBase) (I.ok.hd rfl) (by show(backTo cpos (starEach (e::es) (envOfC qual scope s0.heap.objs.size f cd))).any _=false;rw[m];show(false || (backTo cpos (starEach es (envOfC qual scope s0.heap.objs.size f cd))).any (·.1))=false;rw[G];rfl) y (a0w I hg O.bound ⟨rfl,?_⟩ hd)
 have d:=ha cpos pins s σ H _ I h;have U:starEach (e::es) (V0 (CXE P w) P w K mg base N qual scope f cd A outer s0 j E).env=_:=m;rw[U]at d⊢;refine Calls.evalArgs_plain (wpAny_mono d (λus s2 ⟨vs,H1,a,r,hl,q⟩=>⟨rfl,by rw[<-r.length];exact hl,a.bk _ _ hC,hN.keeps a.bk,T.keeps a.bk,λh' p n=>?_⟩) λ_ _ z=>z);have v:∀env∈(envOfC qual scope s0.heap.objs.size f cd::outer),∀b,env.frame=some b->b∈frs (envOfC qual scope s0.heap.objs.size f cd::outer):=λenv m b hb=>List.mem_filterMap.mpr ⟨env,m,hb⟩;refine wpAny_leaves_madeW (base:=hideAll s2.heap (frs (envOfC qual scope s0.heap.objs.size f cd::outer))) (h:=s2.heap) a.ok.frames rfl (λb o q=>of_hideAll _ q) (funFrames_hide a.stack v) n λh2 t V x2 x3 x4=>?_;have g:∀b∈frs outer,b∈frs (envOfC qual scope s0.heap.objs.size f cd::outer):=λb hb=>by
  obtain⟨env,h1,h2⟩:=List.mem_filterMap.mp hb;exact List.mem_filterMap.mpr ⟨env,List.mem_cons_of_mem _ h1,h2⟩
 have i:∀b,b∉frs outer->b≠s0.heap.objs.size->b∉frs (envOfC qual scope s0.heap.objs.size f cd::outer):=λb h1 h2 h3=>by
  obtain⟨env,L,Y⟩:=List.mem_filterMap.mp h3;rcases List.mem_cons.mp L with rfl|L
  .exact h2 (Option.some.inj Y).symm
  .exact h1 (List.mem_filterMap.mpr ⟨env,L,Y⟩)
 have M:Cov outer H1 s0.heap s2.heap (hideAll s2.heap (frs (envOfC qual scope s0.heap.objs.size f cd::outer))):=λb o eb nb hb=>by
  refine hideAll_get _ eb (i b nb λz=>?_);subst z;rcases hb with hb|⟨o',hb⟩
  .exact hb a.free
  .exact absurd (Heap.lt_size hb) (Nat.lt_irrefl _)
 have hp:H1 p=none:=by
  cases eq:H1 p with
  |none=>rfl
  |some u =>
   obtain⟨o,Z⟩:=(a.hok p u eq).there;rw[n.new]at Z;cases Z
 obtain⟨U2,Q,k⟩:=a2T (P:=P) (w:=w) (l:=outer) (H:=j) (H':=H1) (h0:=s0.heap) (h1:=s2.heap) (h2:=h2) a.base a.hok M V.1 ((Heap.UpToSlots.of_keeps n.keeps).trans x4) a.funs λb hb=>a.stkFree b (g b hb);exact⟨p,C,H1,_,.ref t,rfl,a.os,a.bare,U2,Q,hp,V,k,q⟩
def XP(X:Cx)(pins:List (Addr×Obj))(R:St->Addr->Hp->Prop)(e:Value)(s':Shared):Prop :=
 ∃(σ1:St) (H1:Hp) (s1:Shared) (p C:Addr) (H':Hp) (B:Heap) (a0:Value),e=.ref p/\Inv X pins σ1 H1 s1/\s'.os=s1.os/\AllBare s'.gens/\Un (frs X.stack) [] H1 H' s1.heap s'.heap/\HOk X.prog X.w H' s'.heap /\
  H' p=none/\Heap.FlyingW B X.stack p (.ref C) a0 s'.heap/\Cov X.stack H' s1.heap s'.heap B/\R σ1 C H'
abbrev TX:=Ends->(St->Addr->Hp->Prop)->St->Hp->Prop
def PSx(X:Cx)(sts:List Stmt)(t:TX):Prop :=
 ∀(pins:List (Addr×Obj)) (s:Shared) (σ:St) (H:Hp) (D:Ends) (R:St->Addr->Hp->Prop),Inv X pins σ H s->t D R σ H->wpAny (model X.prog X.w) X.A (execs sts X.env) (SP X pins D) (XP X pins R) s
structure OkE(P:Program)(w:World)(K:PySem.W.Frag)(mg:Str->Option Value)(base:Heap)(x:Str)(k:Nat)(ps:List Str)(sp:Sp):Prop where
 ex:∃f fd,mg x=some (.ref f)/\PySem.W.keepIn K (.ref f)=true/\Binds K fd ps []/\FnOk P w K mg base (CXE P w) k f fd ps sp
theorem FunAt.okE{P:Program}{w:World}{K:PySem.W.Frag}{mg:Str->Option Value}{base:Heap}{x:Str}{st:Stmt}{N ps:List Str}{k:Nat}{sp:Sp}(F:FunAt K mg x st ps)(S:FnScope N ps (A1 st))(len:∀vs H Q E,sp vs H Q E->vs.length=ps.length)
  (b:∀(a:Value) (f:Addr) (A:Around) (outer:List Env) (s:Shared) (H:Hp) (vs:List V) (Q:VK) (E:XK),Room k (A.deeper (envOfC x (A1 st) s.heap.objs.size f a))->sp vs H Q E ->
   ∃t,JB (V0 (CXE P w) P w K mg base N x (A1 st) f a A outer s H E) (E1 st) t/\t {nx:=λ_ H'=>Q .non H',rt:=Q} (start N vs) H):OkE P w K mg base x (k+1) ps sp:=by
 obtain⟨f,fd,h1,h2,l⟩:=F.ex;refine⟨f,fd,h1,h2.kp,l,?_⟩;obtain⟨oc,od,kV,g,pm,an,a,ct,j,rfl,e,d⟩:=h2.ex;refine b5b e d S len λA outer s H vs Q E i c=>?_;obtain⟨t,h,q⟩:=b a f A outer s H vs Q E i c;exact⟨t,h.h,q⟩
def b4A(i:Nat)(sp:Sp)(t:TA):TX:=λD R σ H=>t σ H λvs H1=>sp vs H1 (λv H2=>D.nx (σ.set i (some v)) H2) λc _ H'=>∃C,c=.ref C/\R σ C H'
theorem b3g{X:Cx}{k:Nat}{ps:List Str}{sp:Sp}{x y:Str}{p pos cpos pos':Pos}{e:Expr}{es:List Expr}{t:TA}{i:Nat}(j:∀e s,¬X.xe e s)(O:OkE X.prog X.w X.K X.mg X.base x k ps sp)(n:Room k X.A)(M:Gl X x)
  (Z:X.N.Nodup) (hi:X.N[i]?=some y) (V:Loc X.env.scope y) (ha:PA X (e::es) t) (l:(x==("__debug__" : Str))=false:=by decide)
  (he:starEach (e::es) X.env=(false,eval e X.env)::starEach es X.env:=by rfl) (g:(backTo cpos (starEach es X.env)).any (·.1)=false:=by rfl)
  (hs:swapsWith (.Call (.Name x p) (e::es) [] cpos) (some (.Name y pos')) pos.line X.env=pure false:=by rfl) (hf:X.fn y=true∨X.env.scope.names.lookup y=some .local:=by first|exact .inl rfl|exact .inr rfl|assumption) :
  PSx X [.Assign [.Name y pos'] (.Call (.Name x p) (e::es) [] cpos) pos] (b4A i sp t):=by
 intro pins s σ H D R I h;obtain⟨f,fd,E,o,hb,F⟩:=O.ex;refine wpAny_execs_cons (wpAny_Assign_Name ?_ hs);refine wpAny_Call_Name_kw (a0w I M E ?_ l);refine PySem.W.callWith_K (h₀:=X.base) I.ok.mod.kin o (wpAny_mono (ha cpos pins s σ H _ I h) (λus s1 ⟨vs,H1,b,r,q⟩=>⟨b.kIn,?_⟩) λe s z=>absurd z (j e s)) he g;have hl:us.length=ps.length:=by rw[<-r.length];exact F.len _ _ _ _ q
 have a:=hb s1 us b.kIn (by rw[List.append_nil];exact hl);rw[List.append_nil]at a;refine wpAny_call (codeAny_mono (F.run X.A X.stack s1 H1 ⟨us,[]⟩ us vs _ _ n b.env0 a r q) λr s' c=>?_);cases r with
 |error e =>
  obtain⟨p,C,H',B,a0,h1,h2,Q,S,Y,m,h7,U,C',J,d⟩:=c;cases J;exact⟨σ,H1,s1,p,C,H',B,a0,h1,b,h2,Q,S,Y,m,h7,U,d⟩
 |ok fl =>
  cases fl with
  |ret u =>
   obtain⟨v,H2,L,P,T⟩:=b.after c;exact a2e L Z hi V P (λs2 G=>wpAny_execs_nil ⟨_,H2,G,T⟩) hf
  |next=>exact False.elim c
  |brk=>exact False.elim c
  |cont=>exact False.elim c
section
variable {M:Model}{A:Around}{E:Value->Shared->Prop}
structure ClsX(K:PySem.W.Frag)(C:Addr)(above:List Value):Prop where
 ex:∃nm q N bs bm hdct sn sub ab col dd k0 k1 k2 k3 k5 newId,K.lookup C=some (excClassObj nm q C N bs bm hdct sn sub ab col dd k0 k1 k2 k3 k5 newId)/\bm.contains (.type "BaseException")=true/\∀v∈above,bm.contains v=true
end
section
variable {X:Cx}{pins:List (Addr×Obj)}{σ:St}{H1 H':Hp}{s1 s':Shared}{p C:Addr}{B:Heap}{a0:Value}{h2:Heap}
theorem Inv.land(d:Inv X pins σ H1 s1)(a:s'.os=s1.os)(i:AllBare s'.gens)(f:Un (frs X.stack) [] H1 H' s1.heap s'.heap)(hok:HOk X.prog X.w H' s'.heap)(g:s'.heap.FunFrames B X.stack)(c:Cov X.stack H' s1.heap s'.heap B)(st:B.StaysIn h2)(up:s'.heap.UpToSlots h2) :
  Inv X pins σ H' {s' with heap:=h2}:=by
 have hf:∀b∈frs X.stack,H' b=none:=λb hb=>by
  obtain⟨_,o,h,_⟩:=d.stack.mem hb;exact f.free b o h (d.stkFree b hb) (by simp)
 obtain⟨U2,e,_⟩:=a2T f hok c st up g hf;exact d.call' (ch:=[]) a U2 e i (λb z=>absurd z (by simp))
theorem Inv.landX(j:Inv X pins σ H1 s1)(s:s'.os=s1.os)(D:AllBare s'.gens)(y:Un (frs X.stack) [] H1 H' s1.heap s'.heap)(hok:HOk X.prog X.w H' s'.heap)(hp:H' p=none)(F:s'.heap.FunFrames B X.stack)(t:Cov X.stack H' s1.heap s'.heap B)(c:Heap.FlyingW B X.stack p (.ref C) a0 h2)(up:s'.heap.UpToSlots h2) :
  Inv X pins σ (upd H' p (b2g p C)) {s' with heap:=h2}:=by
 have hf:∀b∈frs X.stack,H' b=none:=λb hb=>by
  obtain⟨_,o,l,_⟩:=j.stack.mem hb;exact y.free b o l (j.stkFree b hb) (by simp)
 obtain⟨U2,v,f⟩:=a2T y hok t c.1 up F hf;obtain⟨m,d,hcl⟩:=c.there;have i:p∉frs X.stack:=λhb=>by
  obtain⟨_,o,l,A⟩:=c.2.2.1.mem hb;obtain⟨J,vs,_,_,_,g,_,x,_⟩:=c.2.2.2;rw[l]at g;cases g;exact A vs x
 have r:∀o,s1.heap.get? p≠some o:=λo e=>by
  have:=f p m d i (.inr ⟨o,e⟩);rw[c.2.1]at this;cases this
 have G:Un (frs X.stack) [] H1 (upd H' p (b2g p C)) s1.heap h2:=by
  refine⟨U2.keep,U2.slot,λb o e n E=>?_,U2.there,λb xs e=>?_,λb o u e=>?_,λb ps e=>?_⟩
  .rw[A2 (by rintro rfl;exact r o e)];exact U2.free b o e n E
  .have q:=U2.tups b xs e;rw[A2 (by rintro rfl;rw[hp]at q;cases q)];exact q
  .have q:=U2.frzs b o u e;rw[A2 (by rintro rfl;rw[hp]at q;cases q)];exact q
  .obtain⟨more,q⟩:=U2.tbls b ps e;exact⟨more,by rw[A2 (by rintro rfl;rw[hp]at q;cases q)];exact q⟩
 have h:HOk X.prog X.w (upd H' p (b2g p C)) h2:=λa o e=>by
  by_cases ha:a=p
  .subst ha;rw[A0]at e;cases e;exact⟨⟨m,d,hcl⟩,⟨m,d⟩,λL K ⟨o,I,H⟩ k=>⟨o,k o I,H⟩⟩
  .rw[A2 ha]at e;refine(v a o e).stay (λb u _ q=>q) (λb q=>?_) λb xs q=>?_
   .rw[A2 (by rintro rfl;rw[hp]at q;cases q)];exact q
   .rw[A2 (by rintro rfl;rw[hp]at q;cases q)];exact q
 exact j.call' (ch:=[]) s G h D (λb z=>absurd z (by simp))
end
section
variable {X:Cx}{pins:List (Addr×Obj)}{σ:St}{H:Hp}{s:Shared}
noncomputable abbrev Cx.held(X:Cx)(p:Addr):Cx:={X with A:=X.A.mark (some (.ref p)),calm:=false,xe:=λ_ _=>False}
theorem Inv.held(I:Inv X pins σ H s)(p:Addr):Inv (X.held p) pins σ H s :=
 ⟨⟨I.ok.mod,I.ok.kind,I.ok.glob,I.ok.blt,I.ok.above,I.ok.inj,I.ok.has,I.ok.cab,(λz=>by cases z),I.ok.frames,I.ok.stk,I.ok.exf,I.ok.bs,I.ok.bsz,I.ok.noex,I.ok.exfs,I.ok.funs,I.ok.frf⟩,I.os,I.bare,I.base,I.loc,I.cell,I.free,I.freeC,I.pin,I.hok,I.len⟩
theorem Inv.unheld{p:Addr}(J:X.Ok)(I:Inv (X.held p) pins σ H s):Inv X pins σ H s :=
 ⟨J,I.os,I.bare,I.base,I.loc,I.cell,I.free,I.freeC,I.pin,I.hok,I.len⟩
end
structure JX(X:Cx)(sts:List Stmt)(t:TX):Prop where
 h:PSx X sts t
section
variable {X:Cx}{k:Nat}{ps:List Str}{sp:Sp}{x y:Str}{p pos cpos pos':Pos}{e:Expr}{es:List Expr}{t:TA}{i:Nat}
theorem b6k(O:OkE X.prog X.w X.K X.mg X.base x k ps sp)(d:Room k X.A)(j:Gl X x)(g:X.N.Nodup)(hi:X.N[i]?=some y)(f:Loc X.env.scope y)(ha:JA X (e::es) t)(b:∀e s,¬X.xe e s:=by exact λ_ _ z=>z)(c:(x==("__debug__" : Str))=false:=by decide)
  (l:starEach (e::es) X.env=(false,eval e X.env)::starEach es X.env:=by rfl) (a:(backTo cpos (starEach es X.env)).any (·.1)=false:=by rfl)
  (hs:swapsWith (.Call (.Name x p) (e::es) [] cpos) (some (.Name y pos')) pos.line X.env=pure false:=by rfl) (hf:X.fn y=true∨X.env.scope.names.lookup y=some .local:=by first|exact .inl rfl|exact .inr rfl|assumption) :
  JX X [.Assign [.Name y pos'] (.Call (.Name x p) (e::es) [] cpos) pos] (b4A i sp t):=⟨b3g b O d j g hi f ha.h c l a hs hf⟩
end
theorem b1I{P:Program}{w:World}{K:PySem.W.Frag}{mg:Str->Option Value}{base:Heap}{N:List Str}{qual:Str}{scope:Scope}{f:Addr}{cd:Value}{A:Around}{outer:List Env}{s0:Shared}{j:Hp}{E:XK}
  {x:Str}{C:Addr}{bmB g:List Value}{B k newId c a i:String}{e:Expr}{es:List Expr}{t:TA}{m cpos pos:Pos}
  (O:OwnCls x C bmB newId mg base) (n:ExcBaseFacts k newId i g) (d:bmB.contains (.type k)=true) (l:ExcBaseFacts B c a bmB)
  (o:Gl (V0 (CXE P w) P w K mg base N qual scope f cd A outer s0 j E) x)
  (ha:JA (V0 (CXE P w) P w K mg base N qual scope f cd A outer s0 j E) (e::es) t) (hd:(x==("__debug__" : Str))=false:=by decide)
  (p:starEach (e::es) (envOfC qual scope s0.heap.objs.size f cd)=(false,eval e (envOfC qual scope s0.heap.objs.size f cd))::starEach es (envOfC qual scope s0.heap.objs.size f cd):=by rfl)
  (b:(backTo cpos (starEach es (envOfC qual scope s0.heap.objs.size f cd))).any (·.1)=false:=by rfl) :
  JS (V0 (CXE P w) P w K mg base N qual scope f cd A outer s0 j E) (.Raise (some (.Call (.Name x m) (e::es) [] cpos)) none pos) (b0l C E t):=⟨b0X O n d l o ha.h hd p b⟩
end L2
namespace L2
open PySem PySem.Spec PyProof.Rows PySem.W Builtin Builtin.ObjectAttr Builtin.Getset_descriptor
section
variable {K:PySem.W.Frag}{prog:Program}{w:World}{A:Around}{E:Value->Shared->Prop}{h:Heap}{g:Array GenState}{d:Drawn}{t:Nat}{os:OsState}{a:Addr}{o:Obj}
 {nm q:Str}{C N:Addr}{bs bm:List Value}{hdct:Bool}{sn:List Str}{sub:List Value}{ab:Bool}{col:Option Bool}{dd:Option Addr}{k0 k1 k2 k3 k5:Option Value}{newId:String}
end
section
variable {X:Cx}{es:List Expr}{e:Expr}{t:TA}{pos p:Pos}
end
end L2
namespace L2
open PySem PySem.Spec PyProof.Rows
theorem a2Q{α:Type}{ca:α->V}{xs:List α}{i:Nat}{x:V}(h:(xs.map ca)[i]?=some x):∃z,xs[i]?=some z/\x=ca z:=by
 rw[List.getElem?_map]at h;cases e:xs[i]? with
 |none=>rw[e]at h;cases h
 |some z=>rw[e]at h;exact⟨z,rfl,(Option.some.inj h).symm⟩
theorem b2D{α β:Type}{K:PySem.W.Frag}{src:List (Option Nat)}{σ caps:St}{Q:VK}{k1 k2:Bool}{a b:Addr}(ca:α->V)(d:β->V){xs:List α}{ys:List β}{H:Hp}{te:TE}(f:α->β->V)(hl:xs.length<=1000)
  (c:∀H',Same H H'->SqK k1 K H' a (xs.map ca)/\SqK k2 K H' b (ys.map d))
  (k:B1 src σ=none::none::caps) (o:∀x y H1 q,x∈xs->y∈ys->Same H H1->(∀H2,Same H1 H2->q (f x y) H2)->te (some (ca x)::some (d y)::caps) H1 q)
  (hd:∀H1 p,Same H H1->H1 p=none->Q (.ref p) (upd H1 p (.lst (List.zipWith f xs ys)))) :
  E5 src (a6b K 2 (U6 (A9 0) (U6 (A9 1) a7j))) K7 te σ Q (Itz K k1 k2 a b) H:=by
 have u:(1000:Nat)<=sizeLine:=by rw[sizeLine_eq];decide
 refine a0B (xs:=xs.map ca) (zs:=ys.map d) (by rw[List.length_map];omega) (λi zs H'=>Same H H'/\zs=(List.zipWith f xs ys).take i) ⟨Same.refl H,by simp⟩ (λi zs H' _ _ h=>⟨(c H' h.1).1,(c H' h.1).2,by rw[h.2];exact List.length_take_le _ _⟩) ?_ ?_
 .rintro i x z zs H' p hx hy ⟨s,rfl⟩ hp;obtain⟨n,m,r⟩:=a2Q hx;obtain⟨g,l,t⟩:=a2Q hy;subst r t;clear hx hy;have s':Same H (upd H' p (.tup [ca n,d g])):=s.upd hp;refine⟨p,[ca n,d g],rfl,SqT.of A0,rfl,ca n,[d g],rfl,d g,[],rfl,rfl,?_⟩;rw[k];show Sub _ (some (ca n)::some (d g)::caps)/\_;refine⟨⟨rfl,λj v e=>?_⟩,?_⟩
  .match j,e with
   |0,e=>cases e
   |1,e=>cases e
   |j+2,e=>exact e
  .exact o n g _ _ (List.mem_of_getElem? m) (List.mem_of_getElem? l) s' λH2 s2=>⟨s'.trans s2,(L7 f m l).symm⟩
 .rintro zs H' ⟨s,rfl⟩ p hp;have e:(List.zipWith f xs ys).take (min (xs.map ca).length (ys.map d).length)=List.zipWith f xs ys:=by
   rw[List.length_map,List.length_map,List.take_of_length_le];rw[List.length_zipWith];exact Nat.le_refl _
  rw[e];exact hd H' p s hp
theorem a8F{α:Type}{K:PySem.W.Frag}{src:List (Option Nat)}{σ caps:St}{Q:VK}{a:Addr}(ca:α->V){xs:List α}{H:Hp}{j:TT}(t:α->Bool)(hl:xs.length<=1000)(b:∀H',Same H H'->SqT K H' a (xs.map ca))(c:B1 src σ=none::caps)
  (f:∀x H1 (g:Bool->Hp->Prop),x∈xs->Same H H1->(∀H2,Same H1 H2->g (t x) H2)->j (some (ca x)::caps) H1 g) (hd:∀H1 p,Same H H1->H1 p=none->Q (.ref p) (upd H1 p (.lst ((xs.filter t).map ca)))):E5 src (A9 0) j (L8 0) σ Q (Itt K a) H:=by
 have k:(1000:Nat)<=sizeLine:=by rw[sizeLine_eq];decide
 refine R1 (xs:=xs.map ca) (by rw[List.length_map];omega) (λi ys H'=>Same H H'/\ys=((xs.take i).filter t).map ca) ⟨Same.refl H,by simp⟩ (λi ys H' _ h=>⟨b H' h.1,by rw[h.2,List.length_map];exact Nat.le_trans (List.length_filter_le _ _) (List.length_take_le _ _)⟩) ?_ ?_
 .rintro i x ys H' hx ⟨s,rfl⟩;obtain⟨z,d,rfl⟩:=a2Q hx;show Sub _ ((B1 src σ).set 0 (some (ca z)))/\_;rw[c];refine⟨Sub.one,f z H' _ (List.mem_of_getElem? d) s λH2 s2=>?_⟩;rw[List.take_add_one,d];cases e:t z with
  |true=>exact⟨_,rfl,s.trans s2,by simp[e]⟩
  |false=>exact⟨s.trans s2,by simp[e]⟩
 .rintro ys H' ⟨s,rfl⟩ p hp;rw[List.length_map,List.take_length];exact hd H' p s hp
theorem b4x{rss c:LLI}:((List.range (min rss.length c.length)).all (λj=>decide (rss.getD j []=c.getD j [])) && rss.length==c.length)=decide (rss=c):=by
 rw[Bool.eq_iff_iff];simp only[Bool.and_eq_true,List.all_eq_true,List.mem_range,decide_eq_true_eq,beq_iff_eq];constructor
 .rintro⟨h1,h2⟩;refine List.ext_getElem h2 λi a b=>?_;have:=h1 i (by omega);simpa[List.getD_eq_getElem?_getD,a,b]using this
 .rintro rfl;exact⟨λ_ _=>rfl,rfl⟩
theorem EqV.its{K:PySem.W.Frag}{H:Hp}{k:Bool}{a b:Addr}{vs d:List V}{rss c:LLI}(ha:SqK k K H a vs)(hb:SqK k K H b d)(h1:Its H vs rss)(h2:Its H d c):EqV K H 2 (.ref a) (.ref b) (decide (rss=c)):=by
 have step:∀j x y,vs[j]?=some x->d[j]?=some y->EqV K H 1 x y (decide (rss.getD j []=c.getD j [])):=λj x y e h=>by
  obtain⟨r,i,ra,rfl,g⟩:=h1.2 j x e;obtain⟨q,eq,l,rfl,f⟩:=h2.2 j y h;rw[List.getD_eq_getElem?_getD,List.getD_eq_getElem?_getD,i,eq];exact EqV.ints (k:=true) (SqT.of g) (SqT.of f)
 rw[<-b4x,<-h1.1,<-h2.1];cases k
 .exact EqV.lst (λj=>decide (rss.getD j []=c.getD j [])) ha hb step
 .exact EqV.tup (λj=>decide (rss.getD j []=c.getD j [])) ha hb step
theorem a0m{K:PySem.W.Frag}{src:List (Option Nat)}{σ caps:St}{Q:VK}{a:Addr}{vs:List V}{rss:LLI}{H:Hp}{te:TE}(f:List Int->V)(hl:vs.length<=sizeLine)(b:∀H',Same H H'->SqT K H' a vs)(hI:Its H vs rss)(c:B1 src σ=none::caps)
  (e:∀v r H1 j,r∈rss->IT H1 v r->Same H H1->(∀H2,Same H1 H2->j (f r) H2)->te (some v::caps) H1 j) (hd:∀H1 p,Same H H1->H1 p=none->Q (.ref p) (upd H1 p (.lst (rss.map f)))):E5 src (A9 0) K7 te σ Q (Itt K a) H:=by
 refine R1 (xs:=vs) (by omega) (λi ys H'=>Same H H'/\ys=(rss.take i).map f) ⟨Same.refl H,by simp⟩ (λi ys H' _ h=>⟨b H' h.1,by rw[h.2,List.length_map];exact List.length_take_le _ _⟩) ?_ ?_
 .rintro i x ys H' hx ⟨s,rfl⟩;obtain⟨r,k,d,g⟩:=hI.mem hx;show Sub _ ((B1 src σ).set 0 (some x))/\_;rw[c];refine⟨Sub.one,e x r H' _ k (g.same s) s λH2 s2=>⟨s.trans s2,?_⟩⟩;rw[List.take_add_one,d];simp
 .rintro ys H' ⟨s,rfl⟩ p hp;rw[hI.1,List.take_length];exact hd H' p s hp
theorem Its.put{H:Hp}{vs:List V}{rss:LLI}{c:Addr}{xs:List V}{o:HO}(h:Its H vs rss)(hc:H c=some (.lst xs)):Its (upd H c o) vs rss:=⟨h.1,λi v e=>let ⟨r,e1,a,e2,q⟩:=h.2 i v e;⟨r,e1,a,e2,by rw[A2 (K9 q hc (by intro z;cases z))];exact q⟩⟩
open _root_.HT
section
variable {prog:Program}{w:World}{A:Around}{E:Value->Shared->Prop}{s:Shared}
theorem a7u(n:Nat):Builtin.Slice.sliceAdjust none none (-1) (n:Int)=((n:Int)-1,-1):=by
 unfold Builtin.Slice.sliceAdjust;have h1:((-1:Int)<0):=by omega
 simp only[h1,if_true]
theorem a6Q(n:Nat):Builtin.Slice.slicePlaces ((n:Int)-1) (-1) (-1)=n:=by
 unfold Builtin.Slice.slicePlaces;have h1:¬((-1:Int) > 0):=by omega
 simp only[h1,if_false,Int.neg_neg,Int.ediv_one];split<;>omega
theorem a0N{sl:Addr}{t:Tok}{n:Nat}{Q:Int×Int×Nat->Shared->Prop}(hs:s.heap.IsSliceOf sl .none .none (.int (-1) t))
  (h:Q ((n:Int)-1,-1,n) s):wpAny (model prog w) A (Builtin.Slice.sliceApplied (.ref sl) (pure (n:Int))) Q E s:=by
 obtain⟨os,a,c,b⟩:=id hs;unfold Builtin.Slice.sliceApplied Builtin.Slice.sliceFields;refine wpAny_bind (wpAny_bind (wpAny_field a b (x:=.none) rfl (wpAny_bind (wpAny_field a b (x:=.none) rfl (wpAny_bind (wpAny_field a b (x:=.int (-1) t) rfl (wpAny_pure ?_)))))));refine wpAny_bind (slicePart_int ?_);show wpAny _ _ (if ((-1:Int)==0)=true then _ else _) _ _ s;rw[if_neg (by decide)];refine wpAny_bind (slicePart_none (wpAny_bind (slicePart_none (wpAny_bind (wpAny_pure ?_)))));show wpAny _ _ (match Builtin.Slice.sliceAdjust none none (-1) (n:Int)with | (lo,hi)=>pure (lo,(-1:Int),Builtin.Slice.slicePlaces lo hi (-1))) _ _ s;rw[a7u n];show wpAny _ _ (pure ((n:Int)-1,(-1:Int),Builtin.Slice.slicePlaces ((n:Int)-1) (-1) (-1))) _ _ s;rw[a6Q];exact wpAny_pure h
theorem a6c{α β:Type}{f g:α->Option β}:∀(l:List α),(∀m∈l,f m=g m)->l.filterMap f=l.filterMap g
 |[],_=>rfl
 |a::l,h=>by
  rw[List.filterMap_cons,List.filterMap_cons,h a (List.mem_cons_self ..),a6c l λm b=>h m (List.mem_cons_of_mem _ b)]
theorem b1b(xs:Array Value):((List.range xs.size).filterMap λ(m:Nat)=>xs[(((xs.size:Int)-1)+(m:Int)*(-1)).toNat]?).toArray=xs.toList.reverse.toArray:=by
 congr 1;have e:∀m∈List.range xs.size,xs[(((xs.size:Int)-1)+(m:Int)*(-1)).toNat]?=some (xs.toList.reverse.getD m .none):=λm c=>by
  have a:m<xs.size:=List.mem_range.mp c;have b:(((xs.size:Int)-1)+(m:Int)*(-1)).toNat=xs.size-1-m:=by omega
  rw[b,List.getD_eq_getElem?_getD,List.getElem?_reverse (by simpa using a),Array.length_toList,Array.getElem?_toList,Array.getElem?_eq_getElem (by omega)];rfl
 rw[a6c _ e];rw[show(List.range xs.size).filterMap (λm=>some (xs.toList.reverse.getD m .none))=(List.range xs.size).map (λm=>xs.toList.reverse.getD m .none)from congrFun (List.filterMap_eq_map (f:=λm=>xs.toList.reverse.getD m .none)) _];refine List.ext_getElem (by simp) λi h1 h2=>?_;simp only[List.getElem_map,List.getElem_range];rw[List.getD_eq_getElem?_getD,List.getElem?_eq_getElem h2];rfl
theorem a0A{t sl:Addr}{items:Array Value}{tk:Tok}{Q:Value->Shared->Prop}(b:IsTup s.heap t items)(hs:s.heap.IsSliceOf sl .none .none (.int (-1) tk))
  (h:Q (.ref s.heap.objs.size) {s with heap:=s.heap.push {cls:=.type "tuple",data:=.seq items.toList.reverse.toArray}})
  (hsz:items.size<=sizeLine):wpAny (model prog w) A (getItem (.ref t) (.ref sl)) Q E s:=by
 have a:sizeOk (.seq items.toList.reverse.toArray):=by
  show items.toList.reverse.toArray.size<=sizeLine;rw[List.size_toArray,List.length_reverse,Array.length_toList];exact hsz
 obtain⟨os,d,e,g⟩:=id hs;have f:s.TypeIs (.ref sl) "slice":=⟨os,d,e⟩;unfold getItem
 try with_reducible refine wpAny_holding ?_
 first|refine wpAny_bind (wpAny_pure ?_)|skip
 refine wpAny_bind (wpAny_sequenceKey b.typeIs (by decide) ?_);refine wpAny_bind (wpAny_callSpecial?_slot (name:=Str.ofString "__getitem__") b.typeIs PyProof.Rows.slot_tuple_getitem
  (wpAny_call_entry PyProof.Rows.slot_tuple_getitem b.typeIs entry_tuple_getitem ?_ (args_tuple_getitem _ _)))
 show wpAny _ _ (Builtin.Tuple.tupleItemsOf (.ref t)>>=_) _ _ s;refine wpAny_bind (tupleItemsOf_ b ?_);refine wpAny_bind (wpAny_typeOf f ?_);rw[if_pos (by decide)];refine wpAny_bind (a0N hs ?_);have c:¬((((items.size:Int)-1)==0 && (-1:Int)==1 && items.size==items.size)=true):=by
  intro q;rw[Bool.and_eq_true,Bool.and_eq_true]at q;exact absurd q.1.2 (by decide)
 show wpAny _ _ (if ((((items.size:Int)-1)==0 && (-1:Int)==1 && items.size==items.size))=true then _ else _) _ _ s;rw[if_neg c,b1b]
 first
  |exact wpAny_bind (m:=Builtin.Tuple.tupleExact _) (wpAny_newObj_type (wpAny_pure ⟨_,rfl,wpAny_pure h⟩) a)
  |exact wpAny_bind (m:=Builtin.Tuple.tupleExact _) (wpAny_newObj_type (wpAny_bind (wpAny_pure (wpAny_pure ⟨_,rfl,wpAny_pure h⟩))) a)
  |exact wpAny_bind (wpAny_bind (m:=Builtin.Tuple.tupleExact _) (wpAny_newObj_type (wpAny_pure (wpAny_pure ⟨_,rfl,wpAny_pure h⟩)) a))
  |exact wpAny_bind (wpAny_bind (m:=Builtin.Tuple.tupleExact _) (wpAny_newObj_type (wpAny_pure ⟨_,rfl,wpAny_pure h⟩) a))
theorem Z5{t sl:Addr}{items:Array Value}{e f:Value}{lo hi:Option Int}{Q:Value->Shared->Prop}(a:IsTup s.heap t items)(hs:s.heap.IsSliceOf sl e f .none)(pl:IsPart e lo)(i:IsPart f hi)
  (hw:sIx items.size 0 lo=0/\sIx items.size items.size hi=items.size) (h:Q (.ref t) s):wpAny (model prog w) A (getItem (.ref t) (.ref sl)) Q E s:=by
 obtain⟨os,b,c,g⟩:=id hs;have d:s.TypeIs (.ref sl) "slice":=⟨os,b,c⟩;unfold getItem
 try with_reducible refine wpAny_holding ?_
 first|refine wpAny_bind (wpAny_pure ?_)|skip
 refine wpAny_bind (wpAny_sequenceKey a.typeIs (by decide) ?_);refine wpAny_bind (wpAny_callSpecial?_slot (name:=Str.ofString "__getitem__") a.typeIs PyProof.Rows.slot_tuple_getitem
  (wpAny_call_entry PyProof.Rows.slot_tuple_getitem a.typeIs entry_tuple_getitem ?_ (args_tuple_getitem _ _)))
 show wpAny _ _ (Builtin.Tuple.tupleItemsOf (.ref t)>>=_) _ _ s;refine wpAny_bind (tupleItemsOf_ a ?_);refine wpAny_bind (wpAny_typeOf d ?_);rw[if_pos (by decide)];refine wpAny_bind (Q7 hs pl i ?_);rw[hw.1,hw.2];show wpAny _ _ (if ((((0:Nat):Int)==0 && (1:Int)==1 && (items.size-0)==items.size))=true then _ else _) _ _ s;rw[if_pos (by simp)];refine wpAny_bind (wpAny_bind (wpAny_typeOf a.typeIs (wpAny_pure ?_)));rw[if_pos (by decide)];exact wpAny_bind (wpAny_rule (wpAny_pure ⟨_,rfl,wpAny_pure h⟩))
end
section
variable {X:Cx}{e:Expr}{te:TE}{lo hi:Option Expr}{tl th:TO}{pos p2:Pos}
def b5o(K:PySem.W.Frag):V->Option Int->Option Int->Hp->VK->Prop:=λx lo hi H Q=>∃a xs,x=.ref a/\SqT K H a xs /\
 ((HT.sIx xs.length 0 lo=0/\HT.sIx xs.length xs.length hi=xs.length)->Q (.ref a) H)/\(¬(HT.sIx xs.length 0 lo=0/\HT.sIx xs.length xs.length hi=xs.length)->∀p,H p=none->Q (.ref p) (upd H p (.tup (L4 xs lo hi))))
theorem b2P(K:PySem.W.Frag)(l:X.K=K):SlR X (b5o K):=by
 subst l;intro pins s σ H x v g k lo hi sl Q I d hs pl f h;obtain⟨a,xs,rfl,c,i,j⟩:=h;by_cases hw:HT.sIx xs.length 0 lo=0/\HT.sIx xs.length xs.length hi=xs.length
 .cases d;obtain⟨its,r,e,m⟩:=I.tuple c;have b:its.toArray.size=xs.length:=by rw[List.size_toArray];exact r.length.symm
  refine⟨"tuple",_,PyProof.Rows.slot_tuple_getitem.lookup,e.typeIs,?_⟩;exact Z5 e hs pl f (by rw[b];exact hw) ⟨.ref a,H,I,rfl,i hw⟩
 .exact b0y pins s σ H (.ref a) v g k lo hi sl Q I d hs pl f ⟨a,xs,rfl,c,hw,j hw⟩
theorem b7x(K:PySem.W.Frag)(a:JE X e te)(hl:JO X lo tl)(c:JO X hi th)(b:X.K=K:=by rfl):JE X (.Subscript e (.Slice lo hi none p2) pos) (tSl (b5o K) te tl th):=⟨a2u (b2P K b) a.h hl.h c.h⟩
def b7a(K:PySem.W.Frag)(te ts:TE):TE:=λσ H Q=>te σ H λx H1=>ts σ H1 λy H2=>y=.int (-1)/\∃a xs,x=.ref a/\SqT K H2 a xs/\∀p,H2 p=none->Q (.ref p) (upd H2 p (.tup xs.reverse))
theorem b6r(K:PySem.W.Frag){st:Expr}{i:TE}(E:JE X e te)(hs:JE X st i)(C:X.K=K:=by rfl):JE X (.Subscript e (.Slice none none (some st) p2) pos) (b7a K te i):=by
 subst C;refine⟨λpins s σ H Q I h=>?_⟩;refine Subscript_ (thn (E.h pins s σ H _ I h) λv s1 ⟨x,H1,n,D,l⟩=>?_);refine wpAny_Slice ?_;rw[evalPart_none];refine wpAny_pure ?_;refine wpAny_pure ?_;rw[evalPart_some];refine thn (hs.h pins s1 σ H1 _ n l) λu c ⟨y,B,p,t,z⟩=>?_;obtain⟨rfl,a,xs,rfl,k,q⟩:=z;obtain⟨tk,rfl⟩:=t;cases D;have f:Inv X pins σ B {c with heap:=c.heap.push {cls:=.type "slice",data:=.fields #[.none,.none,.int (-1) tk]}}:=p.kept (t':=c.toks) λb m q=>Heap.get?_push_of_some _ q;obtain⟨its,r,j,g⟩:=f.tuple k;have d:its.toArray.size=xs.length:=by rw[List.size_toArray];exact r.length.symm
 show wpAny (model X.prog X.w) X.A (subscriptTail e (.Slice none none (some st) p2) (.ref a) (.ref c.heap.objs.size)) (EP X pins σ Q) X.xe {c with heap:=c.heap.push {cls:=.type "slice",data:=.fields #[.none,.none,.int (-1) tk]}};refine tail_any (ops:=[.ref a,.ref c.heap.objs.size]) j.typeIs PyProof.Rows.slot_tuple_getitem.lookup ?_ (by with_unfolding_all rfl);refine a0A j (Heap.IsSliceOf.new ..) ?_ (by rw[d];exact g);refine⟨.ref _,_,f.laid (t':=c.toks) (o:=.tup xs.reverse) (λb m q=>Heap.get?_push_of_some _ q) (Nat.le_refl _) ?_,rfl,q _ (f.hok.fresh (Nat.le_refl _))⟩;exact⟨by rw[List.length_reverse];exact g,_,r.reverse,IsTup.new _ _⟩
def b5s(K:PySem.W.Frag)(neg:Bool):R2:=λx y H Q=>∃(a p:Addr) (ns:List Int) (k:Bool) (vs:List V) (rss:LLI),x=.ref a/\H a=some (.tup (ns.map V.int))/\y=.ref p/\SqK k K H p vs/\Its H vs rss/\Q (.bl (if neg then !decide (ns∈rss)else decide (ns∈rss))) H
noncomputable def eqI(H:Hp)(ns:List Int):Value->Bool
 |.ref b=>match H b with|some (.tup xs)=>decide (xs=ns.map V.int)|_=>false
 |_=>false
theorem map_int_inj{a b:List Int}:a.map V.int=b.map V.int↔a=b:=by
 constructor
 .intro h;induction a generalizing b with
  |nil=>cases b with
   |nil=>rfl
   |cons _ _=>cases h
  |cons x a ih=>cases b with
   |nil=>cases h
   |cons y b =>
    rw[List.map_cons,List.map_cons]at h;injection h with h1 h2
    injection h1 with h1
    rw[h1,ih h2]
 .rintro rfl;rfl
theorem a4S{H:Hp}{ns q:List Int}{b:Addr}(hb:H b=some (.tup (q.map V.int))):eqI H ns (.ref b)=decide (q=ns):=by
 show(match H b with|some (.tup xs)=>decide (xs=ns.map V.int)|_=>false)=_;rw[hb];exact decide_eq_decide.mpr map_int_inj
theorem a1X{H:Hp}{ns:List Int}{vs:List V}{rss:LLI}{us:List Value}(h:Its H vs rss)(r:Vals vs us):us.any (eqI H ns)=decide (ns∈rss):=by
 rw[Bool.eq_iff_iff,List.any_eq_true,decide_eq_true_eq];constructor
 .rintro⟨u,hu,e⟩;obtain⟨i,hi,rfl⟩:=List.mem_iff_getElem.mp hu;have hl:=r.length;obtain⟨y,c⟩:∃y,vs[i]?=some y:=⟨vs[i],List.getElem?_eq_getElem (by omega)⟩;obtain⟨q,eq,b,rfl,hb⟩:=h.2 i y c;obtain⟨g,d,f⟩:=r.get c;rw[List.getElem?_eq_getElem hi]at d;cases d;have a:us[i]=.ref b:=f;rw[a]at e;rw[a4S hb]at e;have:=of_decide_eq_true e;subst this;exact List.mem_of_getElem? eq
 .intro hm;obtain⟨i,hi,rfl⟩:=List.mem_iff_getElem.mp hm;obtain⟨y,c⟩:∃y,vs[i]?=some y:=⟨vs[i]'(by rw[h.1];exact hi),List.getElem?_eq_getElem (by rw[h.1];exact hi)⟩;obtain⟨q,eq,b,rfl,hb⟩:=h.2 i y c;rw[List.getElem?_eq_getElem hi]at eq;cases eq;obtain⟨g,d,f⟩:=r.get c;have a:g=.ref b:=f;subst a;refine⟨_,List.mem_of_getElem? d,?_⟩;rw[a4S hb];exact decide_eq_true rfl
theorem a1S{A:Around}{H:Hp}{s:Shared}{pins:List (Addr×Obj)}{σ:St}{a:Addr}{ns:List Int}{vs:List V}{rss:LLI}{us:List Value}(g:A.units+1<cLine)(I:Inv X pins σ H s)(ha:H a=some (.tup (ns.map V.int)))(h:Its H vs rss)(r:Vals vs us):∀u∈us,SeqAt.EqAt A s u (.ref a) (eqI H ns u):=by
 intro u d;obtain⟨i,hi,rfl⟩:=List.mem_iff_getElem.mp d;have hl:=r.length;obtain⟨y,f⟩:∃y,vs[i]?=some y:=⟨vs[i],List.getElem?_eq_getElem (by omega)⟩;obtain⟨q,eq,b,rfl,hb⟩:=h.2 i y f;obtain⟨l,e,j⟩:=r.get f;rw[List.getElem?_eq_getElem hi]at e;cases e;have c:us[i]=.ref b:=j;rw[c];rw[a4S hb];exact(EqV.ints (K:=X.K) (k:=true) (SqT.of hb) (SqT.of ha)).at I g rfl rfl
theorem b7J(K:PySem.W.Frag)(f:X.A.units+60<cLine)(e:X.K=K:=by rfl):OpR X (compareOp .In) (b5s K false):=by
 subst e;intro pins s σ H x y v u Q I c d h;obtain⟨a,p,ns,k,vs,rss,rfl,ha,rfl,b,hI,q⟩:=h;cases c;cases d;cases k
 .obtain⟨its,r,pl,hz⟩:=I.list b;refine SeqAt.in_listAt (eqI H ns) pl.isList (λw hw=>a1S (by have:X.A.in1.units=X.A.units+1:=rfl;omega) I ha hI r w (by simpa using hw)) ⟨.bl _,H,I,rfl,?_⟩;rw[show its.toArray.any (eqI H ns)=its.any (eqI H ns) by simp,a1X hI r];exact q
 .obtain⟨its,r,pl,hz⟩:=I.tuple b;refine SeqAt.in_tupleAt (eqI H ns) pl (λw hw=>a1S (by have:X.A.in1.units=X.A.units+1:=rfl;omega) I ha hI r w (by simpa using hw)) ⟨.bl _,H,I,rfl,?_⟩;rw[show its.toArray.any (eqI H ns)=its.any (eqI H ns) by simp,a1X hI r];exact q
theorem a9g(K:PySem.W.Frag)(f:X.A.units+60<cLine)(e:X.K=K:=by rfl):OpR X (compareOp .NotIn) (b5s K true):=by
 subst e;intro pins s σ H x y v u Q I c d h;obtain⟨a,p,ns,k,vs,rss,rfl,ha,rfl,b,hI,q⟩:=h;cases c;cases d;cases k
 .obtain⟨its,r,pl,hz⟩:=I.list b;refine SeqAt.notIn_listAt (eqI H ns) pl.isList (λw hw=>a1S (by have:X.A.in1.units=X.A.units+1:=rfl;omega) I ha hI r w (by simpa using hw)) ⟨.bl _,H,I,rfl,?_⟩;rw[show its.toArray.any (eqI H ns)=its.any (eqI H ns) by simp,a1X hI r];exact q
 .obtain⟨its,r,pl,hz⟩:=I.tuple b;refine SeqAt.notIn_tupleAt (eqI H ns) pl (λw hw=>a1S (by have:X.A.in1.units=X.A.units+1:=rfl;omega) I ha hI r w (by simpa using hw)) ⟨.bl _,H,I,rfl,?_⟩;rw[show its.toArray.any (eqI H ns)=its.any (eqI H ns) by simp,a1X hI r];exact q
theorem a9u(K:PySem.W.Frag){a b:Expr}{ta tb:TE}(d:X.A.units+60<cLine)(ha:JE X a ta)(hb:JE X b tb)(e:behindInMarks .NotIn b=false)(c:X.K=K:=by rfl):JT X (.Compare a [.NotIn] [b] pos) (M9 (tOp (b5s K true) ta tb)):=⟨M3 (a9g K d c) ha.h hb.h e⟩
end
end L2
namespace L2
open PySem PySem.Spec PyProof.Rows
section
variable {X:Cx}
end
section
variable {X:Cx}
end
section
variable {prog:Program}{w:World}{A:Around}{E:Value->Shared->Prop}{s:Shared}{k:Bool}
end
section
variable {X:Cx}
end
section
variable {M:Model}{A:Around}{E:Value->Shared->Prop}
theorem a1E{nm q:Str}{C N:Addr}{bs bm:List Value}{hdct:Bool}{sn:List Str}{sub:List Value}{ab:Bool}{col:Option Bool}{dd:Option Addr}{k0 k1 k2 k3 k5:Option Value}{newId:String}
  {h:Heap}{g:Array GenState}{d:Drawn}{t:Nat}{os:OsState}{e:Addr}{j:Obj}{Q:Bool->Shared->Prop}
  (k:h.get? C=some (excClassObj nm q C N bs bm hdct sn sub ab col dd k0 k1 k2 k3 k5 newId)) (m:h.get? e=some j) (b:j.cls=.ref C)
  (a:bm.contains (.type "BaseException")=true) (l:Q true ⟨h,g,d,t,os⟩):wpAny M A (excMatches (.ref e) (.ref C)) Q E ⟨h,g,d,t,os⟩:=by
 have c:(Value.ref C::bm).contains (.type "BaseException")=true:=by rw[List.contains_cons,a,Bool.or_true]
 have i:(Value.ref C::bm).contains (.ref C)=true:=by rw[List.contains_cons];simp
 have f:=tc_notTuple;unfold excMatches
 repeat (first | (with_reducible refine wpAny_loadPart_at m ?_;rw[b])|with_reducible refine wpAny_loadPart_at k ?_ | (with_reducible refine wpAny_isSubtype_exc k ?_;first|rw[c]|rw[i])|wp_step)
 exact l
end
def b0k(K:PySem.W.Frag)(D:Addr)(tx:TX)(ts:TS):TS:=λDe σ H=>tx De (λσ1 C H'=>C=D/\∀p,H' p=none->ts De σ1 (upd H' p (b2g p C))) σ H
theorem b0W{X:Cx}{body:List Stmt}{tx:TX}{M:TS}{n:Str}{np l pos:Pos}{P:Stmt}{b:List Stmt}{D:Addr}(j:X.stack=X.env::X.outer)(r:X.env.frame=some X.env.locals)(V:PSx X body tx)
  (T:Gl X n) (S:X.mg n=some (.ref D)) (hD:ClsX X.K D [])
  (A:∀p,PSs (X.held p) (P::b) M) (hd:(n==("__debug__" : Str))=false:=by decide) :
  PS X (.Try body [.ExceptHandler (some (.Name n np)) none (P::b) l] [] [] pos) (b0k X.K D tx M):=by
 intro pins s σ H G I h;refine wpAny_Try_except (wpAny_mono (V pins s σ H G _ I h) (λf s1 q=>?_) λe s' q=>?_)
 .cases f with
  |next=>exact wpAny_execs_nil q
  |brk=>exact q
  |cont=>exact q
  |ret v=>exact q
 .obtain⟨σ1,H1,s1,p,C,H',B,a0,rfl,I1,hos,hbare,hU,hok,hp,fl,cov,hC,k⟩:=q;subst hC;have O:=fl.2.2.1;have m:=fl;rw[j]at m;refine wpAny_looks_onW (L:=X.env.locals) (by rw[<-j];exact I1.ok.frames) r m λh4 i E=>?_;refine wpAny_landsW i λh5 c d=>?_;rw[<-j]at c;have d:=E.trans d;have J:Inv X pins σ1 H' {s' with heap:=h5}:=I1.land hos hbare hU hok O cov c.1 d;refine wpAny_handleBy_cons (codeAny_handlers_test ?_) (by intro q;cases q);refine a0w (X:=X.held p) (J.held p) T S ?_ hd;obtain⟨oe,y,hcl⟩:=c.there;obtain⟨W,q',a4,a1,Y,t,a2,Q,Z,N,a3,j0,j1,j2,j3,j5,o,u,w,_⟩:=hD.ex;refine a1E (J.kIn _ _ u) y hcl w ?_;refine codeAny_handlers_suite ?_;refine lands_againW c λh6 F x=>?_;have U:Inv X pins σ1 (upd H' p (b2g p C)) {s' with heap:=h6}:=I1.landX hos hbare hU hok hp O cov F (d.trans x);refine wpAny_mono (A p pins _ _ _ G (U.held p) (k p hp)) (λf s8 a=>?_) λ_ _ z=>False.elim z;cases f with
  |next=>obtain⟨σ2,H2,g,a⟩:=a;exact⟨σ2,H2,g.unheld I.ok,a⟩
  |brk=>obtain⟨σ2,H2,g,a⟩:=a;exact⟨σ2,H2,g.unheld I.ok,a⟩
  |cont=>obtain⟨σ2,H2,g,a⟩:=a;exact⟨σ2,H2,g.unheld I.ok,a⟩
  |ret v=>obtain⟨R,σ2,H2,g,rv,a⟩:=a;exact⟨R,σ2,H2,g.unheld I.ok,rv,a⟩
section
variable {X:Cx}{k:Nat}{ps:List Str}{sp:Sp}{x:Str}{p pos cpos:Pos}{e:Expr}{es:List Expr}{t:TA}
theorem b1H(K:PySem.W.Frag){body:List Stmt}{tx:TX}{i:TS}{c:Str}{l b pos:Pos}{g:Stmt}{a:List Stmt}{D:Addr}(k:JX X body tx)(o:Gl X c)(m:X.mg c=some (.ref D))(j:ClsX K D [])
  (d:∀p,JB (X.held p) (g::a) i) (n:X.K=K:=by rfl) (f:X.stack=X.env::X.outer:=by rfl) (e:X.env.frame=some X.env.locals:=by rfl) (hd:(c==("__debug__" : Str))=false:=by decide) :
  JS X (.Try body [.ExceptHandler (some (.Name c l)) none (g::a) b] [] [] pos) (b0k K D tx i):=by
 subst n;exact⟨b0W f e k.h o m j (λp=>(d p).h) hd⟩
end
section
variable (P:Program) (w:World)
end
section
variable {P:Program}{w:World}{H H':Hp}{h h':Heap}{a:Addr}{o:HO}
end
section
variable {P:Program}{w:World}{H:Hp}{h h':Heap}{x e:Addr}{o':HO}
end
section
variable {fs fs' ex ex':List Addr}{H H1 H2:Hp}{h h1 h2 h':Heap}{a x e:Addr}{o:HO}
end
section
variable {X:Cx}{pins:List (Addr×Obj)}{σ:List (Option V)}{H H':Hp}{s:Shared}{h':Heap}
end
section
variable {X:Cx}
variable {a b:Expr}{ta tb:TE}{pos:Pos}
variable {tA tB':TT}{rest:List Expr}
end
section
variable {X:Cx}{pins:List (Addr×Obj)}{σ:St}{H:Hp}{s:Shared}{a:Addr}{xs ys:List V}
end
section
variable {X:Cx}{pins:List (Addr×Obj)}{σ:St}{H:Hp}{s:Shared}{E:Value->Shared->Prop}
end
section
variable {X:Cx}{st:Stmt}{rest:List Stmt}{t u:TS}{e:Expr}{te:TE}{pos:Pos}
end
section
variable {X:Cx}{pos:Pos}
end
section
variable {X:Cx}{tg:Expr}
end
section
variable {X:Cx}{a b c:Expr}{ta tb tc:TE}{pos:Pos}
end
section
variable {prog:Program}{w:World}{A:Around}{E:Value->Shared->Prop}{s:Shared}{K:PySem.W.Frag}{x dx C f:Addr}{mA:Str->Option Value}{name:Str}{v:Value}
end
section
variable {P:Program}{w:World}{H H':Hp}{h h':Heap}{a C dx:Addr}{fs fs':List (Str×V)}
end
section
variable {X:Cx}{pins:List (Addr×Obj)}{σ:St}{H:Hp}{s:Shared}{a C dx:Addr}{fs:List (Str×V)}{f:Str}{v:V}{A:Around}{E:Value->Shared->Prop}
end
section
variable {X:Cx}{o e value:Expr}{f:Str}{pos pos' tpos:Pos}{ta tv:TE}
end
section
variable {X:Cx}{pins:List (Addr×Obj)}{σ:St}{H:Hp}{s:Shared}{A:Around}{E:Value->Shared->Prop}{Q:Value->Shared->Prop}{c:Value}{b:Bool}
end
section
variable {X:Cx}{e:Expr}{es:List Expr}{te:TE}{t:TA}{pos:Pos}
end
section
variable {X:Cx}{pins:List (Addr×Obj)}{σ:St}{H:Hp}{s s':Shared}
end
section
variable {X:Cx}{CX:CXT}{k:Nat}{f C:Addr}{fd:FuncData}{ps:List Str}{sp:Sp}{dvs:List V}{ds:List Value}{E:XK}{x m:Str}{p pos apos:Pos}{e o:Expr}{es:List Expr}{ta:TE}{t:TA}
end
section
variable {X:Cx}{CX:CXT}{k:Nat}{f C:Addr}{fd:FuncData}{ps ks:List Str}{sp:Sp}{E:XK}{x m:Str}{p pos apos kpos:Pos}{e o:Expr}{es:List Expr}{kws:List Keyword}{te ta:TE}{t tk:TA}{nm:Option Str}
variable {g:List Value->List Value->List Value}{gV:List V->List V->List V}
end
section
variable {X:Cx}{x:Str}{p pos:Pos}{e:Expr}{es:List Expr}{t:TA}{id T:String}{r:List V->Hp->VK->Prop}
end
section
variable {κ:Type} [DecidableEq κ]
noncomputable def Q0(kvs:List (κ×V))(k:κ):Option V:=(kvs.find? λkv=>decide (kv.1=k)).map (·.2)
noncomputable def Z4(kvs:List (κ×V))(k:κ)(v:V):List (κ×V) :=
 if (kvs.any λkv=>decide (kv.1=k))=true then kvs.map (λkv=>if kv.1=k then(kv.1,v)else kv)else kvs++[(k,v)]
theorem a2a{p:κ×V}{r:List (κ×V)}{k:κ}(e:p.1=k):Q0 (p::r) k=some p.2:=by simp[Q0,List.find?_cons,e]
theorem a2b{p:κ×V}{r:List (κ×V)}{k:κ}(e:¬p.1=k):Q0 (p::r) k=Q0 r k:=by simp[Q0,List.find?_cons,e]
theorem P9(k:κ):∀kvs:List (κ×V),(kvs.any λa=>decide (a.1=k))=(Q0 kvs k).isSome
 |[]=>rfl
 |p::r=>by
  rw[List.any_cons];by_cases e:p.1=k
  .simp only[a2a e,decide_eq_true e,Bool.true_or,Option.isSome_some]
  .rw[a2b e,decide_eq_false e,Bool.false_or];exact P9 k r
theorem a1q(kvs:List (κ×V))(k:κ)(v:V):(Z4 kvs k v).length<=kvs.length+1:=by
 unfold Z4;split
 .rw[List.length_map];omega
 .rw[List.length_append,List.length_cons,List.length_nil];omega
theorem a5I{kvs:List (κ×V)}{k:κ}(v:V)(h:Q0 kvs k=none):Z4 kvs k v=kvs++[(k,v)]:=by
 unfold Z4;rw[P9,h];exact if_neg (by decide)
theorem RelO.isSome_eq{o:Option V}{u:Option Value}(r:RelO o u):o.isSome=u.isSome:=by
 cases o with
 |none=>cases u with
  |none=>rfl
  |some _=>exact(show False from r).elim
 |some _=>cases u with
  |none=>exact(show False from r).elim
  |some _=>rfl
theorem KV.val{kvs:List (κ×V)}{vs:List (κ×Value)}(r:KV kvs vs)(k:κ):RelO (Q0 kvs k) (valueAt vs k):=by
 unfold KV at r;induction r with
 |nil=>exact True.intro
 |@cons p q ps qs h t ih =>
  obtain⟨h1,h2⟩:=h;by_cases e:p.1=k
  .have e':q.1=k:=h1.symm.trans e;have b:valueAt (q::qs) k=some q.2:=by simp[valueAt,List.find?_cons,e']
   rw[a2a e,b];exact h2
  .have e':¬q.1=k:=λz=>e (h1.trans z);have b:valueAt (q::qs) k=valueAt qs k:=by simp[valueAt,List.find?_cons,e']
   rw[a2b e,b];exact ih
theorem KV.any{kvs:List (κ×V)}{vs:List (κ×Value)}(r:KV kvs vs)(k:κ):(kvs.any λa=>decide (a.1=k))=vs.any λa=>decide (a.1=k):=by
 unfold KV at r;induction r with
 |nil=>rfl
 |cons h t ih=>rw[List.any_cons,List.any_cons,ih,h.1]
theorem KV.repl{kvs:List (κ×V)}{vs:List (κ×Value)}(r:KV kvs vs)(k:κ){y:V}{u:Value}(b:RelV y u) :
  KV (kvs.map λa=>if a.1=k then(a.1,y)else a) (vs.map λa=>if a.1=k then(a.1,u)else a):=by
 unfold KV at r⊢;induction r with
 |nil=>exact .nil
 |@cons p q ps qs h t ih =>
  rw[List.map_cons,List.map_cons];refine .cons ?_ ih;obtain⟨h1,h2⟩:=h;by_cases e:p.1=k
  .rw[if_pos e,if_pos (h1.symm.trans e)];exact⟨h1,b⟩
  .rw[if_neg e,if_neg (λz=>e (h1.trans z))];exact⟨h1,h2⟩
theorem KV.put{kvs:List (κ×V)}{vs:List (κ×Value)}(r:KV kvs vs)(k:κ){y:V}{u:Value}(a:RelV y u):KV (Z4 kvs k y) (stored vs k u):=by
 unfold Z4 stored;rw[r.any k];by_cases e:(vs.any λb=>decide (b.1=k))=true
 .rw[if_pos e,if_pos e];exact r.repl k a
 .rw[if_neg e,if_neg e];exact Paired.snoc r ⟨rfl,a⟩
theorem KV.length{kvs:List (κ×V)}{vs:List (κ×Value)}(r:KV kvs vs):kvs.length=vs.length:=Paired.length r
end
theorem a8g{P:Program}{w:World}{k:Key}{u:Value}(r:RelV (kV k) u):(B5 P w).is k u=true:=by
 cases k with
 |inl i=>obtain⟨t,e⟩:=(show ∃t,u=Value.int i t from r);subst e;exact a5P P w i t
 |inr x=>obtain⟨t,e⟩:=(show ∃t,u=Value.str x t from r);subst e;exact a5O P w x t
theorem a3O{P:Program}{w:World}:∀{ks:List Key}{us:List Value},Vals (ks.map kV) us->ItemsAre (B5 P w) ks us
 |[],_,r=>by rw[List.map_nil]at r;cases r;exact .nil
 |k::ks,_,r=>by
  rw[List.map_cons]at r;cases r with
  |cons h t=>exact .cons (a8g h) (a3O t)
abbrev KT(H:Hp):List (List Key×V)->List (List Key×Addr×Value)->Prop:=Paired λp q=>p.1=q.1/\H q.2.1=some (.tup (p.1.map kV))/\RelV p.2 q.2.2
theorem KT.val{H:Hp}{kvs:List (List Key×V)}{xs:List (List Key×Addr×Value)}(r:KT H kvs xs)(k:List Key):RelO (Q0 kvs k) ((atKey xs k).map (·.2)):=by
 induction r with
 |nil=>exact True.intro
 |@cons p q ps qs h t ih =>
  obtain⟨h1,_,h2⟩:=h;by_cases e:p.1=k
  .have e':q.1=k:=h1.symm.trans e;have b:atKey (q::qs) k=some q.2:=by simp[atKey,List.find?_cons,e']
   rw[a2a e,b];exact h2
  .have e':¬q.1=k:=λz=>e (h1.trans z);have b:atKey (q::qs) k=atKey qs k:=by simp[atKey,List.find?_cons,e']
   rw[a2b e,b];exact ih
theorem KT.repl{H:Hp}{kvs:List (List Key×V)}{xs:List (List Key×Addr×Value)}(r:KT H kvs xs)(k:List Key){y:V}{u:Value}(c:RelV y u) :
  KT H (kvs.map λa=>if a.1=k then(a.1,y)else a) (xs.map (putAt k u)):=by
 induction r with
 |nil=>exact .nil
 |@cons p q ps qs h t ih =>
  rw[List.map_cons,List.map_cons];refine .cons ?_ ih;obtain⟨h1,h2,b⟩:=h;unfold putAt;by_cases e:p.1=k
  .rw[if_pos e,if_pos (h1.symm.trans e)];exact⟨h1,h2,c⟩
  .rw[if_neg e,if_neg (λz=>e (h1.trans z))];exact⟨h1,h2,b⟩
theorem KT.put{H:Hp}{kvs:List (List Key×V)}{xs:List (List Key×Addr×Value)}(r:KT H kvs xs)(k:List Key){b:Addr}{y:V}{u:Value}(hb:H b=some (.tup (k.map kV)))(a:RelV y u) :
  KT H (Z4 kvs k y) (storedH xs k b u):=by
 have e:(kvs.any λc=>decide (c.1=k))=(atKey xs k).isSome:=by
  rw[P9,(r.val k).isSome_eq,Option.isSome_map]
 unfold Z4 storedH;rw[e];by_cases q:(atKey xs k).isSome=true
 .rw[if_pos q,if_pos q];exact r.repl k a
 .rw[if_neg q,if_neg q];exact Paired.snoc r ⟨rfl,hb,a⟩
theorem KT.keeps{H H':Hp}{kvs:List (List Key×V)}{xs:List (List Key×Addr×Value)}(r:KT H kvs xs)(a:∀b ys,H b=some (.tup ys)->H' b=some (.tup ys)):KT H' kvs xs :=
 Paired.mapP r λ_ _ z=>⟨z.1,a _ _ z.2.1,z.2.2⟩
section
variable {P:Program}{w:World}{H:Hp}{h:Heap}{a:Addr}
theorem b4I{u:HO}(ok:HOk P w H h)(e:Rd H a u):ObjOk P w H h a u:=e.ok ok
theorem b2m{kvs:List (Key×V)}(ok:HOk P w H h)(e:Rd H a (.dK kvs)):kvs.length<=sizeLine/\(a==sysModules)=false/\∃vs,KV kvs vs/\h.DictOf (B5 P w) a vs :=
 show ObjOk P w H h a (.dK kvs)from b4I ok e
theorem b7F{kvs:List (Key×V)}(ok:HOk P w H h)(e:H a=some (.dK kvs)):kvs.length<=sizeLine/\(a==sysModules)=false/\∃vs,KV kvs vs/\h.DictOf (B5 P w) a vs:=b2m ok (.inl e)
theorem a0X{ks:List Key}(ok:HOk P w H h)(e:H a=some (.tup (ks.map kV))):(tupleKind (B5 P w)).is h ks a:=by
 obtain⟨_,its,r,o,h1,h2,n,b⟩:=(show ObjOk P w H h a (.tup (ks.map kV))from ok a _ e);exact⟨o,its.toArray,n,h1,h2,b,by simpa using a3O r⟩
theorem b2j{kvs:List (List Key×V)}(ok:HOk P w H h)(e:Rd H a (.dT kvs)):kvs.length<=sizeLine/\(a==sysModules)=false /\
  ∃xs,KT H kvs xs/\h.DictOfH (tupleKind (B5 P w)) a xs:=by
 obtain⟨z,y,xs,r,o,es,ep,h1,h2,d,f,c⟩:=(show ObjOk P w H h a (.dT kvs)from b4I ok e);refine⟨z,y,xs,r,o,es,ep,h1,h2,d,f,λx b=>?_,c⟩;have all:∀{l:List (List Key×V)}{m:List (List Key×Addr×Value)},KT H l m->∀x∈m,(tupleKind (B5 P w)).is h x.1 x.2.1:=by
  intro l m q;induction q with
  |nil=>intro x b;exact nomatch b
  |@cons p q ps qs hq t ih =>
   intro x b;rcases List.mem_cons.mp b with e|b
   .subst e;exact a0X ok (by rw[<-hq.1];exact hq.2.1)
   .exact ih x b
 exact all r x b
theorem b7E{kvs:List (List Key×V)}(ok:HOk P w H h)(e:H a=some (.dT kvs)):kvs.length<=sizeLine/\(a==sysModules)=false /\
  ∃xs,KT H kvs xs/\h.DictOfH (tupleKind (B5 P w)) a xs:=b2j ok (.inl e)
end
def DGet(H:Hp)(a:Addr)(y:V)(r:Option V):Prop :=
 (∃kvs k,Rd H a (.dK kvs)/\y=kV k/\r=Q0 kvs k)∨∃kvs k b,Rd H a (.dT kvs)/\y=.ref b/\H b=some (.tup (k.map kV))/\r=Q0 kvs k
def DPut(H:Hp)(a:Addr)(y v:V)(H':Hp):Prop :=
 (∃kvs k,H a=some (.dK kvs)/\y=kV k/\kvs.length<sizeLine/\H'=upd H a (.dK (Z4 kvs k v))) ∨
 ∃kvs k b,H a=some (.dT kvs)/\y=.ref b/\H b=some (.tup (k.map kV))/\kvs.length<sizeLine/\H'=upd H a (.dT (Z4 kvs k v))
theorem DGet.t{H:Hp}{a b:Addr}{kvs:List (List Key×V)}{k:List Key}(e:H a=some (.dT kvs))(c:H b=some (.tup (k.map kV))):DGet H a (.ref b) (Q0 kvs k):=.inr ⟨kvs,k,b,.inl e,rfl,c,rfl⟩
theorem DPut.t{H:Hp}{a b:Addr}{kvs:List (List Key×V)}{k:List Key}{v:V}(e:H a=some (.dT kvs))(c:H b=some (.tup (k.map kV)))(hl:kvs.length<sizeLine) :
  DPut H a (.ref b) v (upd H a (.dT (Z4 kvs k v))):=.inr ⟨kvs,k,b,e,rfl,c,hl,rfl⟩
section
variable {X:Cx}{pins:List (Addr×Obj)}{σ:St}{H:Hp}{s:Shared}{a:Addr}{y v:V}{u r:Value}{o:Option V}{A:Around}{E:Value->Shared->Prop}
theorem Inv.big(I:Inv X pins σ H s):sysModules<s.heap.objs.size:=by
 have h:mainGlobals<s.heap.objs.size:=(I.mod.glob.keeps I.bk).lt;exact Nat.lt_trans (by decide) h
theorem b7N{Q:Value->Shared->Prop}(i:A.units+1<cLine)(I:Inv X pins σ H s)(g:DGet H a y o)(f:RelV y u)(h:∀s',Inv X pins σ H s'->Q (.bool o.isSome) s') :
  wpAny (model X.prog X.w) A (compareOp .In u (.ref a)) Q E s:=by
 rcases g with⟨kvs,k,e,d,l⟩|⟨kvs,k,b,e,d,j,l⟩
 .subst d;obtain⟨z,hd,vs,c,dd⟩:=b2m I.hok e;refine wpAny_in_of (a8g f) hd dd.mapOf ?_;rw[<-(c.val k).isSome_eq,<-l];exact h _ (I.tok _)
 .subst d;cases(show u=Value.ref b from f);obtain⟨z,hd,xs,c,dd⟩:=b2j I.hok e;refine wpAny_in_heap (tupleKind_room_in1 i) (a0X I.hok j) hd dd ?_;have q:=(c.val k).isSome_eq;rw[Option.isSome_map]at q;rw[<-q,<-l];exact h _ (I.tok _)
theorem b4n{Q:Value->Shared->Prop}(i:A.units+1<cLine)(I:Inv X pins σ H s)(g:DGet H a y o)(f:RelV y u)(h:∀s',Inv X pins σ H s'->Q (.bool (!o.isSome)) s') :
  wpAny (model X.prog X.w) A (compareOp .NotIn u (.ref a)) Q E s:=by
 rcases g with⟨kvs,k,e,d,l⟩|⟨kvs,k,b,e,d,j,l⟩
 .subst d;obtain⟨z,hd,vs,c,dd⟩:=b2m I.hok e;refine wpAny_notIn_of (a8g f) hd dd.mapOf ?_;rw[<-(c.val k).isSome_eq,<-l];exact h _ (I.tok _)
 .subst d;cases(show u=Value.ref b from f);obtain⟨z,hd,xs,c,dd⟩:=b2j I.hok e;refine wpAny_notIn_heap (tupleKind_room_in1 i) (a0X I.hok j) hd dd ?_;have q:=(c.val k).isSome_eq;rw[Option.isSome_map]at q;rw[<-q,<-l];exact h _ (I.tok _)
theorem a8u{h':Heap}{t':Nat}{c:HO}(I:Inv X pins σ H s)(f:Mut (H a))(hs:Heap.SameBut a s.heap h')(d:∃q,h'.get? a=some q)(new:ObjOk X.prog X.w (upd H a c) h' a c) :
  Inv X pins σ (upd H a c) {s with heap:=h',toks:=t'} :=
 I.write (x:=a) (e:=a) f (.inl rfl) (λb q hb z=>(hs.2 b hb).trans z) d new
theorem b6D{P:Program}{w:World}{H':Hp}{h':Heap}{kvs:List (Key×V)}{vs:List (Key×Value)}(z:kvs.length<=sizeLine)(hd:(a==sysModules)=false)(b:KV kvs vs)(dd:h'.DictOf (B5 P w) a vs) :
  ObjOk P w H' h' a (.dK kvs):=⟨z,hd,vs,b,dd⟩
theorem a9G{H':Hp}{Q:Unit->Shared->Prop}(B:A.units+1<cLine)(I:Inv X pins σ H s)(g:DPut H a y v H')(t:RelV y u)(p:RelV v r)(h:∀s',Inv X pins σ H' s'->Q () s') :
  wpAny (model X.prog X.w) A (setItem (.ref a) u r) Q E s:=by
 rcases g with⟨kvs,k,e,n,l,j⟩|⟨kvs,k,b,e,n,x,l,j⟩
 .subst n j;obtain⟨z,hd,vs,d,dd⟩:=b7F I.hok e;have m:vs.length<=sizeLine:=by rw[<-d.length];exact z
  have hl:(Z4 kvs k v).length<=sizeLine:=by have:=a1q kvs k v;omega
  refine wpAny_setItem_pairs (hsz:=m) (a8g t) dd λh' f hs=>h _ ?_;have F:∃q,h'.get? a=some q:=let ⟨q,_,_,i,_⟩:=f;⟨q,i⟩
  exact a8u I (by rw[e];exact True.intro) hs F (b6D hl hd (d.put k p) f)
 .subst n j;cases(show u=Value.ref b from t);obtain⟨z,hd,xs,d,dd⟩:=b7E I.hok e;have m:xs.length<=sizeLine:=by rw[<-Paired.length d];exact z
  have hl:(Z4 kvs k v).length<=sizeLine:=by have:=a1q kvs k v;omega
  refine wpAny_setItem_heap (hsz:=m) (tupleKind_room_in1 B) (a0X I.hok x) dd λh' f hs=>h _ ?_;obtain⟨q,es,ep,i,h2,C,G,_,D⟩:=f;refine a8u I (by rw[e];exact True.intro) hs ⟨q,i⟩ ⟨hl,hd,_,(d.put k x p).keeps λc ys o=>?_,q,es,ep,i,h2,C,G,D⟩;rw[A2 (K9 o e (λz=>nomatch z))];exact o
end
section
variable {X:Cx}{pins:List (Addr×Obj)}{σ:St}{H:Hp}{s:Shared}{a:Addr}{kvs:List (Key×V)}{k:Key}{u:Value}{A:Around}{E:Value->Shared->Prop}
end
def b7d(ty td:TE):TE:=λσ H Q=>ty σ H λy H1=>td σ H1 λx H2=>∃a o,x=.ref a/\DGet H2 a y o/\Q (.bl o.isSome) H2
def a7H(ty td:TE):TE:=λσ H Q=>ty σ H λy H1=>td σ H1 λx H2=>∃a o,x=.ref a/\DGet H2 a y o/\Q (.bl (!o.isSome)) H2
def b4H(td ty tv:TE):TS:=λD σ H=>tv σ H λv H1=>td σ H1 λx H2=>ty σ H2 λy H3=>∃a H4,x=.ref a/\DPut H3 a y v H4/\D.nx σ H4
section
variable {X:Cx}{o i e value:Expr}{pos pos' tpos:Pos}{td ty tv:TE}
theorem b5Q(f:X.A.units+1<cLine)(hi:PE X i ty)(e:PE X o td):PC X .In i o (b7d ty td):=by
 intro pins s σ H Q I h;refine thn (hi pins s σ H _ I h) λp s1 ⟨y,H1,j,k,c⟩=>thn (e pins s1 σ H1 _ j c) λu s2 ⟨x,H2,m,d,a,n,ex,g,b⟩=>?_;subst ex;obtain rfl:u=Value.ref a:=d;exact b7N f m g k λq l=>⟨.bl n.isSome,H2,l,rfl,b⟩
theorem a9e(f:X.A.units+1<cLine)(hi:PE X i ty)(e:PE X o td):PC X .NotIn i o (a7H ty td):=by
 intro pins s σ H Q I h;refine thn (hi pins s σ H _ I h) λp s1 ⟨y,H1,j,k,c⟩=>thn (e pins s1 σ H1 _ j c) λu s2 ⟨x,H2,m,d,a,n,ex,g,b⟩=>?_;subst ex;obtain rfl:u=Value.ref a:=d;exact b4n f m g k λq l=>⟨.bl (!n.isSome),H2,l,rfl,b⟩
theorem b3l(k:X.A.units+1<cLine)(e:PE X o td)(hi:PE X i ty)(w:PE X value tv)(hs:swapsWith value (some (.Subscript o i pos')) pos.line X.env=pure false) :
  PS X (.Assign [.Subscript o i pos'] value pos) (b4H td ty tv):=by
 intro pins s σ H D I h;refine wpAny_Assign_Subscript (thn (w pins s σ H _ I h) λr s1 ⟨v,H1,m,d,c⟩=>thn (e pins s1 σ H1 _ m c) λu s2 ⟨x,H2,q,j,b⟩=>thn (hi pins s2 σ H2 _ q b) λE B ⟨y,z,p,n,a,l,ex,g,t⟩=>?_) hs;subst ex;obtain rfl:u=Value.ref a:=j;exact a9G k p g n d λC f=>⟨σ,l,f,t⟩
end
theorem b2k{P:Program}{w:World}{H:Hp}(h:Heap)(hb:sysModules<h.objs.size):ObjOk P w H (h.push {cls:=.type "dict",data:=.dict #[]}) h.objs.size (.dT []) :=
 ⟨Nat.zero_le _,beq_eq_false_iff_ne.mpr (Ne.symm (Nat.ne_of_lt hb)),[],.nil,_,#[],0,Heap.get?_push_size _ rfl,⟨rfl,rfl,rfl⟩,rfl,rfl,List.nodup_nil⟩
def b0m:TE:=λ_ H Q=>∀p,H p=none->Q (.ref p) (upd H p (.dT []))
section
variable {X:Cx}{pos:Pos}
theorem b1i:PE X (.Dict [] [] pos) b0m:=λpins s σ H Q I h =>
 wpAny_Dict_empty ⟨.ref s.heap.objs.size,_,I.laid (a:=s.heap.objs.size) (o:=.dT []) (t':=s.toks) (λ_ _ q=>Heap.get?_push_of_some _ q) (Nat.le_refl _) (b2k s.heap I.big),rfl,h _ (I.hok.fresh (Nat.le_refl _))⟩
end
section
variable {X:Cx}{pins:List (Addr×Obj)}{σ:St}{H:Hp}{s:Shared}{a:Addr}{y d:V}{u r:Value}{o:Option V}{A:Around}{E:Value->Shared->Prop}
end
section
variable {X:Cx}{o e f:Expr}{apos cpos:Pos}{td ty tx:TE}
end
section
variable {X:Cx}{pins:List (Addr×Obj)}{σ:St}{H:Hp}{s:Shared}{a:Addr}{kvs:List (Key×V)}{A:Around}{E:Value->Shared->Prop}
end
section
variable {X:Cx}{pins:List (Addr×Obj)}{σ:St}{H:Hp}{s:Shared}{a:Addr}{y:V}{u:Value}{A:Around}{E:Value->Shared->Prop}
end
end L2
namespace Att
open PySem PySem.W PySem.Calls PyProof.Rows
section
variable {prog:Program}{w:World}{A:Around}{E:Value->Shared->Prop}{s:Shared}{K:Frag}
end
end Att
namespace L2
open PySem PySem.Spec PyProof.Rows
end L2
namespace L2
open PySem PySem.Spec PyProof.Rows
section
variable {P:Program}{w:World}{K:PySem.W.Frag}{mg:Str->Option Value}{base:Heap}
end
section
variable {X:Cx}
end
section
variable {κ:Type} [DecidableEq κ]
theorem b0g{kvs:List (κ×V)}{k:κ}(h:Q0 kvs k=none):¬k∈kvs.map (·.1):=by
 intro m;obtain⟨p,hp,e⟩:=List.mem_map.mp m;have q:(kvs.any λa=>decide (a.1=k))=true:=List.any_eq_true.mpr ⟨p,hp,decide_eq_true e⟩;rw[P9,h]at q;exact absurd q (by simp)
theorem b2I{kvs:List (κ×V)}{k:κ}{v:V}(h:Q0 kvs k=some v):k∈kvs.map (·.1):=by
 have q:(kvs.any λa=>decide (a.1=k))=true:=by
  rw[P9,h]
  all_goals rfl
 obtain⟨p,hp,e⟩:=List.any_eq_true.mp q;exact List.mem_map.mpr ⟨p,hp,of_decide_eq_true e⟩
theorem a8e:∀{l:List κ}{k:κ},l.Nodup->¬k∈l->(l++[k]).Nodup
 |[],k,_,_=>by simp
 |a::r,k,h,hk=>by
  obtain⟨h1,h2⟩:=List.nodup_cons.mp h;show(a::(r++[k])).Nodup;refine List.nodup_cons.mpr ⟨λm=>?_,a8e h2 λm=>hk (List.mem_cons.mpr (Or.inr m))⟩;rcases List.mem_append.mp m with q|q
  .exact h1 q
  .exact hk (List.mem_cons.mpr (Or.inl (List.mem_singleton.mp q).symm))
end
end L2
namespace L2
open PySem PySem.Spec PyProof.Rows PySem.W
section
variable {O:KeyOrd}{key:Nat->O.α}{N:Nat}{p:Array Nat}
noncomputable def kk(key:Nat->O.α)(p:Array Nat)(i:Nat):O.α:=key (p[i]?.getD 0)
end
theorem J6:∀a:List Int,HT.lexLt a a=false
 |[]=>rfl
 |x::xs=>by rw[HT.lexLt_cons,if_pos rfl];exact J6 xs
theorem a0T:∀a b c:List Int,HT.lexLt a b=true->HT.lexLt b c=true->HT.lexLt a c=true
 |[],[],_,h,_=>by cases h
 |_::_,[],_,h,_=>by cases h
 |_,_::_,[],_,h=>by cases h
 |[],_::_,_::_,_,_=>rfl
 |x::xs,y::ys,z::zs,h1,h2=>by
  rw[HT.lexLt_cons]at h1 h2⊢;by_cases e:x=y
  .rw[if_pos e]at h1;by_cases d:y=z
   .rw[if_pos d]at h2;rw[if_pos (e.trans d)];exact a0T xs ys zs h1 h2
   .rw[if_neg d]at h2;rw[if_neg (by rw[e];exact d),e];exact h2
  .rw[if_neg e]at h1;have h1:=of_decide_eq_true h1;by_cases d:y=z
   .rw[if_neg (by rw[<-d];exact e),<-d];exact decide_eq_true h1
   .rw[if_neg d]at h2;have h2:=of_decide_eq_true h2;rw[if_neg (by omega)];exact decide_eq_true (by omega)
theorem M8:∀a b:List Int,HT.lexLt a b=false->HT.lexLt b a=false->a=b
 |[],[],_,_=>rfl
 |[],_::_,h,_=>by cases h
 |_::_,[],_,h=>by cases h
 |x::xs,y::ys,h1,h2=>by
  rw[HT.lexLt_cons]at h1 h2;by_cases e:x=y
  .subst e;rw[if_pos rfl]at h1 h2;rw[M8 xs ys h1 h2]
  .rw[if_neg e]at h1;rw[if_neg (Ne.symm e)]at h2;have h1:=of_decide_eq_false h1;have h2:=of_decide_eq_false h2;omega
theorem b3T(a b c:List Int)(h:HT.lexLt a c=true):HT.lexLt a b=true∨HT.lexLt b c=true:=by
 cases h1:HT.lexLt a b with
 |true=>exact .inl rfl
 |false =>
  refine .inr ?_;cases h2:HT.lexLt b a with
  |true=>exact a0T b a c h2 h
  |false=>rw[<-M8 a b h1 h2];exact h
noncomputable def OL:KeyOrd:=⟨List Int,HT.lexLt,J6,a0T,b3T,M8⟩
def C9(tss:LLI):Prop:=tss.Pairwise λa b=>HT.lexLt b a=false
section
variable {prog:Program}{w:World}{A:Around}{E:Value->Shared->Prop}{s:Shared}
noncomputable def b3U(fin:Bool):List Int->List Int->Bool
 |[],_=>fin
 |_::_,[]=>fin
 |x::xs,y::ys=>if x=y then b3U fin xs ys else decide (x<y)
theorem a5T:∀(xs ys:List Int),b3U (decide (xs.length<ys.length)) xs ys=HT.lexLt xs ys
 |[],[]=>rfl
 |[],y::ys=>by
  show decide (0<ys.length+1)=true;exact decide_eq_true (by omega)
 |x::xs,[]=>by
  show decide (xs.length+1<0)=false;exact decide_eq_false (by omega)
 |x::xs,y::ys=>by
  rw[HT.lexLt_cons];show(if x=y then _ else _)=_;split
  .rw[<-a5T xs ys];congr 1;simp only[List.length_cons];exact decide_eq_decide.mpr (by omega)
  .rfl
theorem a9i{c:Bool}{a b:Int}{t u:Tok}{Q:Bool->Shared->Prop}(h:Q (decide (a<b)) s):wpAny (model prog w) A (oneLt' c (.int a t) (.int b u)) Q E s:=by
 cases c with
 |true=>exact oneLt_int h
 |false=>exact kat_one _ _ (lt_int h)
theorem a1s{b fin:Bool}{Q:Bool->Shared->Prop}:∀{vs a:List Value}{ns ms:List Int}(i:Nat),IntsAre vs ns->IntsAre a ms->Q (b3U fin ns ms) s->KatLex prog w A b fin Q (vs.zip a) i s
 |_,_,_,_,i,.nil,_,h=>h
 |_,_,_,_,i,.cons _ _ _,.nil,h=>h
 |_,_,_,_,i,.cons x t hx,.cons y u hy,h=>by
  rw[List.zip_cons_cons];refine kat_cons (wpAny_eqBool_int ?_);have h:Q (if x=y then b3U fin _ _ else decide (x<y)) s:=h;by_cases e:x=y
  .rw[if_pos e]at h;rw[show(x==y)=true from beq_iff_eq.mpr e];exact kat_yes (a1s (i+1) hx hy h)
  .rw[if_neg e]at h;rw[show(x==y)=false from beq_eq_false_iff_ne.mpr e];exact kat_no (a9i h)
def TupsAre(h:Heap)(vs:List Value)(rss:LLI):Prop:=vs.length=rss.length/\∀(i:Nat) (v:Value),vs[i]?=some v->∃(r:List Int) (b:Addr) (its:Array Value),rss[i]?=some r/\v=Value.ref b/\IsTup h b its/\IntsAre its.toList r
theorem TupsAre.keeps{h h':Heap}{vs:List Value}{rss:LLI}(t:TupsAre h vs rss)(k:∀b its,IsTup h b its->IsTup h' b its):TupsAre h' vs rss :=
 ⟨t.1,λi v e=>let ⟨r,b,its,e1,e2,e3,e4⟩:=t.2 i v e;⟨r,b,its,e1,e2,k _ _ e3,e4⟩⟩
theorem a5j{h:Heap}:∀{vs:List Value}{rss:LLI},TupsAre h vs rss->(∀r∈rss,0<r.length)->∃fs,KatTups h vs fs/\fs.length=vs.length/\∀f∈fs,∃n t,f=Value.int n t
 |[],_,_,_=>⟨[],trivial,rfl,λ_ z=>nomatch z⟩
 |v::vs,[],T,_=>by cases T.1
 |v::vs,r::rss,T,hw=>by
  obtain⟨fs,h1,h2,k⟩:=a5j (vs:=vs) (rss:=rss) ⟨by have:=T.1;simpa using this,λi u e=>T.2 (i+1) u e⟩ λr a=>hw r (List.mem_cons_of_mem _ a);obtain⟨s,b,its,j,m,⟨o,g,d,n,q⟩,c⟩:=T.2 0 v rfl;cases j;have a:=hw r List.mem_cons_self;obtain⟨x,t,us,p⟩:∃x t us,its.toList=Value.int x t::us:=by
   generalize its.toList=l at c;cases c with
   |nil=>simp at a
   |cons x t h=>exact⟨x,t,_,rfl⟩
  refine⟨.int x t::fs,⟨⟨b,o,its,n,m,g,d,q,?_⟩,h1⟩,by simp[h2],λf hf=>?_⟩
  .rw[<-Array.getElem?_toList,p];rfl
  .rcases List.mem_cons.mp hf with rfl|hf
   .exact⟨x,t,rfl⟩
   .exact k f hf
theorem a8E{vs:List Value}{rss:LLI}{Q:SortKind->Shared->Prop}(T:TupsAre s.heap vs rss)(hw:∀r∈rss,0<r.length)(a:0<vs.length)(h:Q (tuples' true) s):wpAny (model prog w) A (keyKind' vs.toArray) Q E s:=by
 obtain⟨fs,h1,h2,b⟩:=a5j T hw;refine kat_kind (T:=.type "int") h1 (by omega) (λv a=>?_) rfl ?_
 .obtain⟨n,t,rfl⟩:=b v a;exact .now
 .rw[show(Value.type "int" != Value.type "tuple")=true from rfl];exact h
end
section
variable {prog:Program}{w:World}{A:Around}{E:Value->Shared->Prop}{s:Shared}
theorem U5{h:Heap}{a:Addr}{vs:List Value}{out:Array Value}:∀b o,b≠a->h.get? b=some o->(sortedHeap h a vs out).get? b=some o:=λb o hb e=>by
 unfold sortedHeap;rw[Heap.get?_update_ne _ _ _ _ hb];exact Heap.get?_push_of_some _ (Heap.get?_push_of_some _ (by rw[Heap.get?_update_ne _ _ _ _ hb];exact e))
theorem Z6{h:Heap}{a:Addr}{vs:List Value}{out:Array Value}{n:Nat}(f:h.get? a=some (seqObj "list" vs.toArray n)):∃c,(sortedHeap h a vs out).get? a=some (seqObj "list" out c):=by
 unfold sortedHeap;have ha:a<h.objs.size:=Heap.lt_size f;obtain⟨d,b⟩:∃d,(h.update a (Obj.mapSeq λ_=>#[])).get? a=some (seqObj "list" #[] d):=⟨_,get?_update_seq f (λ_=>#[])⟩;have e:(((h.update a (Obj.mapSeq λ_=>#[])).push (seqObj "tuple" vs.toArray 0)).push (seqObj "list" #[] 0)).get? a=some (seqObj "list" #[] d):=Heap.get?_push_of_some _ (Heap.get?_push_of_some _ b);exact⟨_,get?_update_seq e (λ_=>out)⟩
end
section
variable {X:Cx}
theorem a2M{pins:List (Addr×Obj)}{σ:St}{H:Hp}{s:Shared}(I:Inv X pins σ H s){ys:List V}{rss:LLI}{us:List Value}(h:Its H ys rss)(r:Vals ys us):TupsAre s.heap us rss:=by
 refine⟨by rw[<-r.length];exact h.1,λi v e=>?_⟩;have hi:i<ys.length:=by rw[r.length];exact(List.getElem?_eq_some_iff.mp e).1
 obtain⟨u,b,c⟩:=r.get (List.getElem?_eq_getElem hi);rw[e]at b;cases b;obtain⟨row,f,a,d,k⟩:=h.2 i _ (List.getElem?_eq_getElem hi);rw[d]at c;cases c;obtain⟨its,g,j,_⟩:=I.tuple (SqT.of (K:=X.K) k);exact⟨row,a,its.toArray,f,rfl,j,by simpa using a7g g⟩
end
noncomputable def O9:Bool->Keyed->Array Keyed->Nat->Nat->Nat->StateT SortSt Sem (Option Nat):=sortPriv% PySem.Builtin.gallop
noncomputable def P5(left:Bool)(key:Keyed)(arr:Array Keyed)(base:Nat)(i:Nat):StateT SortSt Sem (Option Bool):=do
 let x <-elem' arr (base+i)
 if left then lt' x key else return (<-lt' key x).map (!·)
noncomputable def b4s(left:Bool)(key:Keyed)(arr:Array Keyed)(base n lo₀ hi₀:Nat):StateT SortSt Sem (Option Nat):=do
 let mut lo:=lo₀
 let mut hi:=hi₀
 for _ in [0:n] do
  if lo ≥ hi then break
  let m:=lo+(hi-lo) / 2
  let some more <-P5 left key arr base m|return none
  if more then lo:=m+1 else hi:=m
 return some hi
theorem a7i(left:Bool)(key:Keyed)(arr:Array Keyed)(base n a:Nat):O9 left key arr base n a=(P5 left key arr base a>>=λr=>match r with
 |some right=>(if right=true then
   (forIn [:n] ((none,0,1):Option (Option Nat)×Nat×Nat) (λ_ c=>if c.2.2 ≥ n-a then pure (.done (none,c.2.1,c.2.2))else P5 left key arr base (a+c.2.2)>>=λr=>match r with
     |some more=>(if (!more)=true then pure (.done (none,c.2.1,c.2.2))else pure (.yield (none,c.2.2,2*c.2.2+1)))
     |_=>pure (.done (some none,c.2.1,c.2.2)))>>=λc=>match c.1 with
    |some r=>pure r
    |none=>b4s left key arr base n (a+c.2.1+1) (a+min c.2.2 (n-a)))
  else
   (forIn [:n] ((none,0,1):Option (Option Nat)×Nat×Nat) (λ_ c=>if c.2.2 ≥ a+1 then pure (.done (none,c.2.1,c.2.2))else P5 left key arr base (a-c.2.2)>>=λr=>match r with
     |some found=>(if found=true then pure (.done (none,c.2.1,c.2.2))else pure (.yield (none,c.2.2,2*c.2.2+1)))
     |_=>pure (.done (some none,c.2.1,c.2.2)))>>=λc=>match c.1 with
    |some r=>pure r
    |none=>b4s left key arr base n (a+1-min c.2.2 (a+1)) (a-c.2.1)))
 |_=>pure none):=by
 show(_>>=_)=(_>>=_);refine congrArg _ (funext λr=>?_);cases r with
 |none=>rfl
 |some right =>
  dsimp only;refine ite_congr rfl (λ_=>?_) (λ_=>?_)
  .refine congr (congrArg _ (congrArg _ (funext λ_=>funext λc=>?_))) (funext λc=>?_)
   .rfl
   .rcases c with⟨_|q,c⟩<;>rfl
  .refine congr (congrArg _ (congrArg _ (funext λ_=>funext λc=>?_))) (funext λc=>?_)
   .rfl
   .rcases c with⟨_|q,c⟩<;>rfl
section
variable {prog:Program}{w:World}{A:Around}{E:Value->Shared->Prop}{s:Shared}
def Cmp(prog:Program)(w:World)(A:Around)(s:Shared)(κ:SortKind)(D:Keyed->Prop)(lt:Keyed->Keyed->Bool):Prop :=
 ∀x y (C:Bool->Shared->Prop),D x->D y->C (lt x y) s->wpAny (model prog w) A (keyLt' κ x.1 y.1) C (λ_ _=>False) s
variable {κ:SortKind}{D:Keyed->Prop}{lt:Keyed->Keyed->Bool}
theorem a0k{st:SortSt}{x y:Keyed}{Q:Option Bool->SortSt->Prop}(hc:Cmp prog w A s κ D lt)(d:kindOf st=κ)(a:D x)(e:D y)(h:Q (some (lt x y)) st):wpS (model prog w) A E s (lt' x y) Q st:=by
 rw[lt'_eq];refine wpS_bind (wpS_get ?_);rw[d];refine wpS_bind (wpS_lift (wpAny_attempt (wpAny_mono (hc x y (λb s'=>s'=s/\b=lt x y) a e ⟨rfl,rfl⟩) (λb s' ⟨c,f⟩=>?_) λ_ _ z=>z.elim)));rw[c,f];exact⟨rfl,wpS_pure h⟩
noncomputable def b2A(lt:Keyed->Keyed->Bool)(left:Bool)(key x:Keyed):Bool:=if left then lt x key else !(lt key x)
theorem a6q{st:SortSt}{left:Bool}{key x:Keyed}{arr:Array Keyed}{base i:Nat}{Q:Option Bool->SortSt->Prop}(hc:Cmp prog w A s κ D lt)(c:kindOf st=κ)(a:D key)(b:D x)(d:arr[base+i]?=some x)(h:Q (some (b2A lt left key x)) st) :
  wpS (model prog w) A E s (P5 left key arr base i) Q st:=by
 unfold P5;rw[elem'_eq,d];refine wpS_bind (wpS_pure ?_);unfold b2A at h;cases left with
 |true=>exact a0k hc c b a h
 |false=>exact wpS_bind (a0k hc c a b (wpS_pure h))
theorem a7E{st:SortSt}{left:Bool}{key:Keyed}{arr:Array Keyed}{base n lo hi:Nat}{Q:Option Nat->SortSt->Prop}(a:Nat->Bool)
  (f:∀i,i<n->∀{R:Option Bool->SortSt->Prop},R (some (a i)) st->wpS (model prog w) A E s (P5 left key arr base i) R st) (mono:∀i j,i<=j->j<n->a j=true->a i=true) (d:∀i j,i<=j->j<n->a i=false->a j=false)
  (h1:lo<=hi) (h2:hi<=n) (m:∀i,i<lo->a i=true) (o:∀i,hi<=i->i<n->a i=false)
  (h:∀k,k<=n->(∀i,i<k->a i=true)->(∀i,k<=i->i<n->a i=false)->Q (some k) st):wpS (model prog w) A E s (b4s left key arr base n lo hi) Q st:=by
 unfold b4s;dsimp only;refine wpS_bind (wpS_mono (wpS_forRange (I:=λx c st'=>st'=st/\∃l r,c=(none,l,r)/\l<=r/\r<=n/\r-l<=n-x/\(∀i,i<l->a i=true)/\(∀i,r<=i->i<n->a i=false))
  (Q:=λc st'=>st'=st/\∃l,c=(none,l,l)/\l<=n/\(∀i,i<l->a i=true)/\(∀i,l<=i->i<n->a i=false)) ?step ?fin ⟨rfl,lo,hi,rfl,h1,h2,by omega,m,o⟩) ?post)
 case fin =>
  rintro c st' ⟨rfl,l,r,rfl,a1,a2,a3,a4,a5⟩;have e:l=r:=by omega
  subst e;exact⟨rfl,l,rfl,a2,a4,a5⟩
 case step =>
  rintro x c st' _ p ⟨rfl,l,r,rfl,a1,a2,a3,a4,a5⟩;dsimp only;by_cases b:l ≥ r
  .rw[if_pos b];have e:l=r:=by omega
   subst e;exact wpS_pure ⟨rfl,l,rfl,a2,a4,a5⟩
  .rw[if_neg b];have g:l+(r-l) / 2<n:=by omega
   refine wpS_bind (f _ g ?_);dsimp only;cases hb:a (l+(r-l) / 2)with
   |true =>
    rw[if_pos rfl];exact wpS_pure ⟨rfl,_,r,rfl,by omega,a2,by omega,λi hi=>mono i _ (by omega) g hb,a5⟩
   |false =>
    rw[if_neg (by simp)];exact wpS_pure ⟨rfl,l,_,rfl,by omega,by omega,by omega,a4,λi h1 h2=>d _ i h1 h2 hb⟩
 case post =>
  rintro c st' ⟨rfl,l,rfl,a2,a4,a5⟩;exact wpS_pure (h l a2 a4 a5)
theorem J3{st:SortSt}{left:Bool}{key:Keyed}{arr:Array Keyed}{base n a:Nat}{Q:Option Nat->SortSt->Prop}(hc:Cmp prog w A s κ D lt)(y:kindOf st=κ)(p:D key)(b:Nat->Bool)
  (hb:∀i,i<n->∃x,arr[base+i]?=some x/\D x/\b2A lt left key x=b i) (mono:∀i j,i<=j->j<n->b j=true->b i=true) (B:a<n)
  (h:∀k,k<=n->(∀i,i<k->b i=true)->(∀i,k<=i->i<n->b i=false)->Q (some k) st):wpS (model prog w) A E s (O9 left key arr base n a) Q st:=by
 have f:∀i,i<n->∀{R:Option Bool->SortSt->Prop},R (some (b i)) st->wpS (model prog w) A E s (P5 left key arr base i) R st:=λi hi R hR=>by
  obtain⟨x,u,q,v⟩:=hb i hi;exact a6q hc y p q u (by rw[v];exact hR)
 have g:∀i j,i<=j->j<n->b i=false->b j=false:=λi j r z e=>by
  cases q:b j with
  |false=>rfl
  |true=>rw[mono i j r z q]at e;cases e
 rw[a7i];refine wpS_bind (f a B ?_);dsimp only;cases m:b a with
 |true =>
  rw[if_pos rfl];refine wpS_bind (wpS_mono (wpS_forRange (I:=λx c st'=>st'=st/\∃l o,c=(none,l,o)/\l<o/\x+1<=o/\a+l<n/\b (a+l)=true)
   (Q:=λc st'=>st'=st/\∃l o,c=(none,l,o)/\l<o/\a+l<n/\b (a+l)=true/\(o ≥ n-a∨b (a+o)=false)) ?step ?fin ⟨rfl,0,1,rfl,by omega,by omega,by omega,m⟩) ?post)
  case fin =>
   rintro c st' ⟨rfl,l,o,rfl,a1,a2,a3,a4⟩;exact⟨rfl,l,o,rfl,a1,a3,a4,.inl (by omega)⟩
  case step =>
   rintro x c st' _ t ⟨rfl,l,o,rfl,a1,a2,a3,a4⟩;dsimp only;by_cases d:o ≥ n-a
   .rw[if_pos d];exact wpS_pure ⟨rfl,l,o,rfl,a1,a3,a4,.inl d⟩
   .rw[if_neg d];refine wpS_bind (f _ (by omega) ?_);dsimp only;cases hb:b (a+o)with
    |true =>
     rw[if_neg (by simp)];exact wpS_pure ⟨rfl,o,2*o+1,rfl,by omega,by omega,by omega,hb⟩
    |false =>
     rw[if_pos (by rfl)];exact wpS_pure ⟨rfl,l,o,rfl,a1,a3,a4,.inr hb⟩
  case post =>
   rintro c st' ⟨rfl,l,o,rfl,a1,a3,a4,a5⟩;dsimp only;refine a7E (lo:=a+l+1) (hi:=a+min o (n-a)) b f mono g (by omega) (by omega) (λi hi=>mono i (a+l) (by omega) a3 a4) (λi h1 h2=>?_) h;rcases a5 with a5|a5
   .omega
   .exact g (a+o) i (by omega) h2 a5
 |false =>
  rw[if_neg (by simp)];refine wpS_bind (wpS_mono (wpS_forRange (I:=λx c st'=>st'=st/\∃l o,c=(none,l,o)/\l<o/\x+1<=o/\l<=a/\b (a-l)=false)
   (Q:=λc st'=>st'=st/\∃l o,c=(none,l,o)/\l<o/\l<=a/\b (a-l)=false/\(o ≥ a+1∨b (a-o)=true)) ?step ?fin ⟨rfl,0,1,rfl,by omega,by omega,by omega,m⟩) ?post)
  case fin =>
   rintro c st' ⟨rfl,l,o,rfl,a1,a2,a3,a4⟩;exact⟨rfl,l,o,rfl,a1,a3,a4,.inl (by omega)⟩
  case step =>
   rintro x c st' _ t ⟨rfl,l,o,rfl,a1,a2,a3,a4⟩;dsimp only;by_cases d:o ≥ a+1
   .rw[if_pos d];exact wpS_pure ⟨rfl,l,o,rfl,a1,a3,a4,.inl d⟩
   .rw[if_neg d];refine wpS_bind (f _ (by omega) ?_);dsimp only;cases hb:b (a-o)with
    |true =>
     rw[if_pos rfl];exact wpS_pure ⟨rfl,l,o,rfl,a1,a3,a4,.inr hb⟩
    |false =>
     rw[if_neg (by simp)];exact wpS_pure ⟨rfl,o,2*o+1,rfl,by omega,by omega,by omega,hb⟩
  case post =>
   rintro c st' ⟨rfl,l,o,rfl,a1,a3,a4,a5⟩;dsimp only;refine a7E (lo:=a+1-min o (a+1)) (hi:=a-l) b f mono g (by omega) (by omega) (λi hi=>?_) (λi h1 h2=>g (a-l) i h1 h2 a4) h;rcases a5 with a5|a5
   .omega
   .exact mono i (a-o) (by omega) (by omega) a5
end
section
variable {O:KeyOrd}{kf:Keyed->O.α}{la lb o:List Keyed}{ia ib:Nat}
def leK(kf:Keyed->O.α)(x y:Keyed):Prop:=O.kle (kf x) (kf y)
noncomputable def ltK(kf:Keyed->O.α)(x y:Keyed):Bool:=O.blt (kf x) (kf y)
structure MS(kf:Keyed->O.α)(la lb o:List Keyed)(ia ib:Nat):Prop where
 perm:o.Perm (la.take ia++lb.take ib)
 sorted:o.Pairwise (leK kf)
 ra:∀x∈o,∀y∈la.drop ia,leK kf x y
 rb:∀x∈o,∀y∈lb.drop ib,leK kf x y
theorem Y8{α:Type}{l:List α}{i:Nat}{x:α}(h:l[i]?=some x):l.drop i=x::l.drop (i+1):=by
 obtain⟨hi,e⟩:=List.getElem?_eq_some_iff.mp h;rw[List.drop_eq_getElem_cons hi,e]
theorem V2{l:List Keyed}{i:Nat}{x:Keyed}(hs:l.Pairwise (leK kf))(h:l[i]?=some x):∀y∈l.drop (i+1),leK kf x y:=by
 have:=hs.drop (i:=i);rw[Y8 h]at this;exact(List.pairwise_cons.mp this).1
theorem R8{α:Type}{l:List α}{i:Nat}{x:α}(h:l[i]?=some x):l.take (i+1)=l.take i++[x]:=by
 rw[List.take_add_one,h];rfl
theorem MS.stepA{x:Keyed}(h:MS kf la lb o ia ib)(hs:la.Pairwise (leK kf))(e:la[ia]?=some x)(hb:∀y∈lb.drop ib,leK kf x y):MS kf la lb (o++[x]) (ia+1) ib:=by
 have c:x∈la.drop ia:=by rw[Y8 e];exact List.mem_cons_self
 refine⟨?_,?_,λz b y a=>?_,λz b y a=>?_⟩
 .rw[R8 e];have:=h.perm.append_right [x];refine this.trans ?_;rw[List.append_assoc,List.append_assoc];exact List.Perm.append_left _ List.perm_append_comm
 .rw[List.pairwise_append];exact⟨h.sorted,List.pairwise_singleton _ _,λz b y a=>by rw[List.mem_singleton.mp a];exact h.ra z b x c⟩
 .have hy':y∈la.drop ia:=by rw[Y8 e];exact List.mem_cons_of_mem _ a
  rcases List.mem_append.mp b with q|q
  .exact h.ra z q y hy'
  .rw[List.mem_singleton.mp q];exact V2 hs e y a
 .rcases List.mem_append.mp b with q|q
  .exact h.rb z q y a
  .rw[List.mem_singleton.mp q];exact hb y a
theorem MS.swap(h:MS kf la lb o ia ib):MS kf lb la o ib ia:=⟨h.perm.trans List.perm_append_comm,h.sorted,h.rb,h.ra⟩
theorem MS.stepB{x:Keyed}(h:MS kf la lb o ia ib)(hs:lb.Pairwise (leK kf))(e:lb[ib]?=some x)(ha:∀y∈la.drop ia,leK kf x y):MS kf la lb (o++[x]) ia (ib+1) :=
 (h.swap.stepA hs e ha).swap
theorem MS.bulkA(hs:la.Pairwise (leK kf)):∀(k:Nat) {o:List Keyed}{ia:Nat},MS kf la lb o ia ib->ia+k<=la.length->(∀i x,i<k->la[ia+i]?=some x->∀y∈lb.drop ib,leK kf x y)->MS kf la lb (o++(la.drop ia).take k) (ia+k) ib
 |0,o,ia,h,_,_=>by rw[List.take_zero,List.append_nil];exact h
 |k+1,o,ia,h,hl,hk=>by
  obtain⟨x,a⟩:∃x,la[ia]?=some x:=⟨_,List.getElem?_eq_getElem (by omega)⟩;have h1:=h.stepA hs a (hk 0 x (by omega) a);have h2:=MS.bulkA hs k h1 (by omega) λi y hi e=>hk (i+1) y (by omega) (by rw[<-e];congr 1;omega);rw[Y8 a,List.take_succ_cons];rw[List.append_assoc]at h2;rw[show ia+(k+1)=ia+1+k by omega];exact h2
theorem MS.bulkB(hs:lb.Pairwise (leK kf)){k:Nat}(h:MS kf la lb o ia ib)(hl:ib+k<=lb.length)(a:∀i x,i<k->lb[ib+i]?=some x->∀y∈la.drop ia,leK kf x y):MS kf la lb (o++(lb.drop ib).take k) ia (ib+k) :=
 (MS.bulkA hs k h.swap hl a).swap
def a1g(kf:Keyed->O.α)(la lb o:List Keyed):Prop:=o.Perm (la++lb)/\o.Pairwise (leK kf)
theorem MS.done(h:MS kf la lb o ia ib)(hs:la.Pairwise (leK kf))(hb:ib=lb.length):a1g kf la lb (o++la.drop ia++lb.drop ib):=by
 subst hb;rw[List.drop_length,List.append_nil];have hp:=h.perm;rw[List.take_length]at hp;refine⟨?_,?_⟩
 .refine(hp.append_right _).trans ?_;rw[List.append_assoc];refine(List.Perm.append_left _ List.perm_append_comm).trans ?_;rw[<-List.append_assoc,List.take_append_drop]
 .rw[List.pairwise_append];exact⟨h.sorted,hs.drop,h.ra⟩
theorem MS.lastA(h:MS kf la lb o ia ib)(a:la.Pairwise (leK kf))(hs:lb.Pairwise (leK kf))(hl:∀y∈lb.drop ib,∀x∈la.drop ia,leK kf y x):a1g kf la lb (o++lb.drop ib++la.drop ia):=by
 refine⟨?_,?_⟩
 .have hp:=(h.perm.append_right (lb.drop ib)).append_right (la.drop ia);refine hp.trans ?_;rw[List.append_assoc (la.take ia),List.take_append_drop,List.append_assoc];refine(List.Perm.append_left _ List.perm_append_comm).trans ?_;rw[<-List.append_assoc,List.take_append_drop]
 .rw[List.pairwise_append];refine⟨?_,a.drop,λx c y b=>?_⟩
  .rw[List.pairwise_append];exact⟨h.sorted,hs.drop,h.rb⟩
  .rcases List.mem_append.mp c with q|q
   .exact h.ra x q y b
   .exact hl x q y b
end
noncomputable def a2z:Array Keyed->Array Keyed->StateT SortSt Sem (Array Keyed):=sortPriv% PySem.Builtin.mergeLo
noncomputable def X0(g:Nat):StateT SortSt Sem Unit:=modify λs=>SortSt.mk' (kindOf s) (arrOf s) (pendingOf s) g (failedOf s)
noncomputable def N5(a b out:Array Keyed)(ia ib:Nat):Array Keyed:=out++a.extract ia a.size++b.extract ib b.size
noncomputable def a0e(a b out:Array Keyed)(ia ib:Nat):Array Keyed:=out++b.extract ib b.size++a.extract ia a.size
abbrev T1:Type:=Option (Array Keyed)×Array Keyed×Nat×Nat×Nat×Nat
abbrev T2:Type:=Option (Array Keyed)×Array Keyed×Nat×Nat×Nat×Nat×Nat
noncomputable def loD(a b out:Array Keyed)(ia ib mg k k1:Nat):StateT SortSt Sem (ForInStep T2) :=
 elem' a ia>>=λx =>
 if (ia+1+1==a.size)=true then pure (.done (some (a0e a b (out.push x) (ia+1) ib),out.push x,ia+1,ib,mg,k,k1))
 else if (decide (k<7) && decide (k1<7))=true then pure (.done (none,out.push x,ia+1,ib,mg,k,k1))
 else pure (.yield (none,out.push x,ia+1,ib,mg,k,k1))
noncomputable def loC(a b out:Array Keyed)(ia ib mg k bc:Nat):StateT SortSt Sem (ForInStep T2) :=
 elem' b ib>>=λy =>
 if (ib+1==b.size)=true then pure (.done (some (N5 a b (out.push y) ia (ib+1)),out.push y,ia,ib+1,mg,k,bc))
 else elem' a ia>>=λx=>O9 true x b (ib+1) (b.size-(ib+1)) 0>>=λr =>
  match r with
  |some k1=>(if k1 > 0 then
    (if (ib+1+k1==b.size)=true then pure (.done (some (N5 a b (out.push y++b.extract (ib+1) (ib+1+k1)) ia (ib+1+k1)),out.push y++b.extract (ib+1) (ib+1+k1),ia,ib+1+k1,mg,k,k1))
    else loD a b (out.push y++b.extract (ib+1) (ib+1+k1)) ia (ib+1+k1) mg k k1)
   else loD a b (out.push y) ia (ib+1) mg k k1)
  |_=>pure (.done (some (N5 a b (out.push y) ia (ib+1)),out.push y,ia,ib+1,mg,k,bc))
noncomputable def loB(a b out:Array Keyed)(ia ib mg ac bc:Nat):StateT SortSt Sem (ForInStep T2) :=
 X0 mg>>=λ_=>elem' b ib>>=λy=>O9 false y a ia (a.size-ia) 0>>=λr =>
 match r with
 |some k=>(if k > 0 then
   (if (ia+k+1==a.size)=true then pure (.done (some (a0e a b (out++a.extract ia (ia+k)) (ia+k) ib),out++a.extract ia (ia+k),ia+k,ib,mg,k,bc))
   else if (ia+k==a.size)=true then pure (.done (some (N5 a b (out++a.extract ia (ia+k)) (ia+k) ib),out++a.extract ia (ia+k),ia+k,ib,mg,k,bc))
   else loC a b (out++a.extract ia (ia+k)) (ia+k) ib mg k bc)
  else loC a b out ia ib mg k bc)
 |_=>pure (.done (some (N5 a b out ia ib),out,ia,ib,mg,ac,bc))
noncomputable def loA(a b out:Array Keyed)(ia ib ac bc mg:Nat):StateT SortSt Sem (ForInStep T1) :=
 elem' b ib>>=λy=>elem' a ia>>=λx=>lt' y x>>=λr =>
 match r with
 |some bWins=>(if bWins=true then elem' b ib>>=λy =>
   (if (ib+1==b.size)=true then pure (.done (some (N5 a b (out.push y) ia (ib+1)),out.push y,ia,ib+1,0,bc+1))
   else if bc+1 ≥ mg then pure (.done (none,out.push y,ia,ib+1,0,bc+1))
   else pure (.yield (none,out.push y,ia,ib+1,0,bc+1)))
  else elem' a ia>>=λx =>
   (if (ia+1+1==a.size)=true then pure (.done (some (a0e a b (out.push x) (ia+1) ib),out.push x,ia+1,ib,ac+1,0))
   else if ac+1 ≥ mg then pure (.done (none,out.push x,ia+1,ib,ac+1,0))
   else pure (.yield (none,out.push x,ia+1,ib,ac+1,0))))
 |_=>pure (.done (some (N5 a b out ia ib),out,ia,ib,ac,bc))
theorem a5Q(a b:Array Keyed):a2z a b=(do
 rule "list.sort.merge-lo"
 let y <-elem' b 0
 if (1==b.size)=true then pure (N5 a b #[y] 0 1)
 else if (0+1==a.size)=true then pure (a0e a b #[y] 0 1)
 else do
  let g <-get
  let r <-forIn [:a.size+b.size] ((none,#[y],0,1,gallopOf g):Option (Array Keyed)×Array Keyed×Nat×Nat×Nat) λ_ c=>do
   let r <-forIn [:a.size+b.size] ((none,c.2.1,c.2.2.1,c.2.2.2.1,0,0):T1) λ_ d=>loA a b d.2.1 d.2.2.1 d.2.2.2.1 d.2.2.2.2.1 d.2.2.2.2.2 c.2.2.2.2
   match r.1 with
   |some q=>pure (ForInStep.done (some q,r.2.1,r.2.2.1,r.2.2.2.1,c.2.2.2.2))
   |none=>do
    rule "list.sort.gallop"
    let t <-forIn [:a.size+b.size] ((none,r.2.1,r.2.2.1,r.2.2.2.1,c.2.2.2.2+1,r.2.2.2.2.1,r.2.2.2.2.2):T2) λ_ d =>
     if d.2.2.2.2.1 > 1 then loB a b d.2.1 d.2.2.1 d.2.2.2.1 (d.2.2.2.2.1-1) d.2.2.2.2.2.1 d.2.2.2.2.2.2 else loB a b d.2.1 d.2.2.1 d.2.2.2.1 d.2.2.2.2.1 d.2.2.2.2.2.1 d.2.2.2.2.2.2
    match t.1 with
    |some q=>pure (ForInStep.done (some q,t.2.1,t.2.2.1,t.2.2.2.1,t.2.2.2.2.1))
    |none=>do
     X0 (t.2.2.2.2.1+1)
     pure (ForInStep.yield (none,t.2.1,t.2.2.1,t.2.2.2.1,t.2.2.2.2.1+1))
  match r.1 with
  |some q=>pure q
  |none=>unsupported "internal:list.sort.merge-bound"):=by
 show(_>>=_)=(_>>=_);refine congrArg _ (funext λ_=>?_);dsimp only;refine congrArg _ (funext λy=>?_);refine ite_congr rfl (λ_=>rfl) (λ_=>ite_congr rfl (λ_=>rfl) λ_=>?_);refine congrArg _ (funext λg=>?_);refine congr (congrArg _ (congrArg _ (funext λ_=>funext λc=>?_))) (funext λr=>?_)
 .refine congr (congrArg _ (congrArg _ (funext λ_=>funext λd=>?_))) (funext λr=>?_)
  .rfl
  .rcases r with⟨_|q,r⟩
   .dsimp only;refine congrArg _ (funext λ_=>?_);refine congr (congrArg _ (congrArg _ (funext λ_=>funext λd=>?_))) (funext λr=>?_)
    .rfl
    .rcases r with⟨_|q,r⟩<;>rfl
   .rfl
 .rcases r with⟨_|q,r⟩
  .dsimp only
  .rfl
theorem a1W{α:Type}(a:Array α)(i:Nat):(a.extract i a.size).toList=a.toList.drop i:=by
 rw[Array.toList_extract];simp[List.extract_eq_drop_take'];rw[<-Array.length_toList,List.take_length]
theorem a2W{α:Type}(a:Array α)(i k:Nat):(a.extract i (i+k)).toList=(a.toList.drop i).take k:=by
 rw[Array.toList_extract];simp[List.extract_eq_drop_take]
theorem a6h(a b out:Array Keyed)(ia ib:Nat):(N5 a b out ia ib).toList=out.toList++a.toList.drop ia++b.toList.drop ib:=by
 unfold N5;rw[Array.toList_append,Array.toList_append,a1W,a1W]
theorem a5W(a b out:Array Keyed)(ia ib:Nat):(a0e a b out ia ib).toList=out.toList++b.toList.drop ib++a.toList.drop ia:=by
 unfold a0e;rw[Array.toList_append,Array.toList_append,a1W,a1W]
section
variable {prog:Program}{w:World}{A:Around}{E:Value->Shared->Prop}{s:Shared}{κ:SortKind}{D:Keyed->Prop}{O:KeyOrd}{kf:Keyed->O.α}{a b out:Array Keyed}{ia ib:Nat}{st:SortSt}
def Good(st st':SortSt):Prop:=kindOf st'=kindOf st/\arrOf st'=arrOf st/\pendingOf st'=pendingOf st/\failedOf st'=failedOf st
structure Two(D:Keyed->Prop)(kf:Keyed->O.α)(a b:Array Keyed):Prop where
 da:∀(i:Nat) x,a[i]?=some x->D x
 db:∀(i:Nat) x,b[i]?=some x->D x
 sa:a.toList.Pairwise (leK kf)
 sb:b.toList.Pairwise (leK kf)
 last:∀y∈b.toList,∀x,a[a.size-1]?=some x->ltK kf y x=true
theorem T7{l:List Keyed}{i:Nat}{x z:Keyed}(hs:l.Pairwise (leK kf))(e:l[i]?=some x)(h:leK kf z x):∀y∈l.drop i,leK kf z y:=λy a=>by
 rw[Y8 e]at a;rcases List.mem_cons.mp a with rfl|a
 .exact h
 .exact KeyOrd.kle_trans h (V2 hs e y a)
def MI(kf:Keyed->O.α)(a b out:Array Keyed)(ia ib:Nat):Prop:=MS kf a.toList b.toList out.toList ia ib/\ia+1<a.size/\ib<b.size
def C4(kf:Keyed->O.α)(a b r:Array Keyed):Prop:=a1g kf a.toList b.toList r.toList
theorem X9(T:Two D kf a b)(h:MS kf a.toList b.toList out.toList ia ib)(hi:ia+1=a.size):C4 kf a b (a0e a b out ia ib):=by
 unfold C4;rw[a5W];refine h.lastA T.sa T.sb λy e x d=>?_;have c:ia<a.toList.length:=by rw[Array.length_toList];omega
 rw[List.drop_eq_getElem_cons c,List.drop_eq_nil_of_le (by rw[Array.length_toList];omega),List.mem_singleton]at d;refine KeyOrd.kle_of_klt (T.last y (List.mem_of_mem_drop e) x ?_);rw[d,show a.size-1=ia by omega,<-Array.getElem?_toList,List.getElem?_eq_getElem c]
theorem Y9(T:Two D kf a b)(h:MS kf a.toList b.toList out.toList ia ib)(hi:ib=b.size):C4 kf a b (N5 a b out ia ib):=by
 unfold C4;rw[a6h];exact h.done T.sa (by rw[Array.length_toList];exact hi)
theorem B3{arr:Array Keyed}{i:Nat}(hi:i<arr.size){Q:Keyed->SortSt->Prop}(h:∀x,arr[i]?=some x->arr.toList[i]?=some x->Q x st):wpS (model prog w) A E s (elem' arr i) Q st:=by
 rw[elem'_eq];have e:arr[i]?=some arr[i]:=getElem?_pos arr i hi;rw[e];exact wpS_pure (h _ e (by rw[Array.getElem?_toList];exact e))
def P2(kf:Keyed->O.α)(st:SortSt)(a b:Array Keyed)(c0:Nat)(c:T2)(st':SortSt):Prop:=Good st st'/\((∃r,c.1=some r/\C4 kf a b r)∨(c.1=none/\MI kf a b c.2.1 c.2.2.1 c.2.2.2.1/\c0<=c.2.2.1+c.2.2.2.1))
def Y2(kf:Keyed->O.α)(st:SortSt)(a b:Array Keyed)(c0:Nat)(c:T2)(st':SortSt):Prop:=Good st st'/\c.1=none/\MI kf a b c.2.1 c.2.2.1 c.2.2.2.1/\c0<=c.2.2.1+c.2.2.2.1
def R2'(kf:Keyed->O.α)(st:SortSt)(a b:Array Keyed)(c0:Nat)(r:ForInStep T2)(st':SortSt):Prop:=match r with | .done c'=>P2 kf st a b c0 c' st' | .yield c'=>Y2 kf st a b c0 c' st'
variable {c0 mg k k1 bc ac:Nat}{st':SortSt}
theorem a7x(T:Two D kf a b)(g:Good st st')(h:MI kf a b out ia ib)(i:∀x,a.toList[ia]?=some x->∀y∈b.toList.drop ib,leK kf x y)(j:c0<=ia+ib):wpS (model prog w) A E s (loD a b out ia ib mg k k1) (R2' kf st a b c0) st':=by
 unfold loD;refine wpS_bind (B3 (by have:=h.2.1;omega) λx l f=>?_);have c:=h.1.stepA T.sa f (i x f);rw[<-Array.toList_push]at c;split
 .rename_i e;exact wpS_pure ⟨g,.inl ⟨_,rfl,X9 T c (eq_of_beq e)⟩⟩
 .rename_i e;have e:¬ia+1+1=a.size:=λz=>e (beq_iff_eq.mpr z);have d:MI kf a b (out.push x) (ia+1) ib:=⟨c,by have:=h.2.1;omega,h.2.2⟩;split
  .exact wpS_pure ⟨g,.inr ⟨rfl,d,by show c0<=ia+1+ib;omega⟩⟩
  .exact wpS_pure ⟨g,rfl,d,by show c0<=ia+1+ib;omega⟩
theorem gdK(a:Array Keyed){i:Nat}(hi:i<a.size):a[i]?=some (a.getD i (Value.none,Value.none)):=by
 rw[Array.getD_eq_getD_getElem?,getElem?_pos a i hi];rfl
theorem X8{l:List Keyed}(hs:l.Pairwise (leK kf)){i j:Nat}{x y:Keyed}(b:i<=j)(ex:l[i]?=some x)(a:l[j]?=some y):leK kf x y:=by
 by_cases e:i=j
 .subst e;rw[ex]at a;cases a;exact KeyOrd.kle_refl _
 .refine V2 hs ex y ?_;have:(l.drop (i+1))[j-(i+1)]?=some y:=by rw[List.getElem?_drop,<-a];congr 1;omega
  exact List.mem_of_getElem? this
theorem a7y(T:Two D kf a b)(r:Cmp prog w A s κ D (ltK kf))(B:kindOf st=κ)(g:Good st st')(h:MI kf a b out ia ib)(I:∀y,b.toList[ib]?=some y->∀x∈a.toList.drop ia,leK kf y x)(H:c0<=ia+ib):wpS (model prog w) A E s (loC a b out ia ib mg k bc) (R2' kf st a b c0) st':=by
 unfold loC;obtain⟨o,f,t⟩:=h;refine wpS_bind (B3 t λy v n=>?_);have m:=o.stepB T.sb n (I y n);rw[<-Array.toList_push]at m;split
 .rename_i e;exact wpS_pure ⟨g,.inl ⟨_,rfl,Y9 T m (eq_of_beq e)⟩⟩
 .rename_i e;have e:¬ib+1=b.size:=λz=>e (beq_iff_eq.mpr z);refine wpS_bind (B3 (by omega) λx f1 f2=>?_);refine wpS_bind (J3 r (g.1.trans B) (T.da _ _ f1) (λi=>ltK kf (b.getD (ib+1+i) (Value.none,Value.none)) x) (λi hi=>⟨_,gdK b (by omega),T.db _ _ (gdK b (by omega)),rfl⟩) (λi j F J hb=>?_) (by omega) λk1 K G C=>?_)
  .refine KeyOrd.klt_of_kle_of_klt (X8 T.sb (i:=ib+1+i) (j:=ib+1+j) (by omega) ?_ ?_) hb
   .rw[Array.getElem?_toList];exact gdK b (by omega)
   .rw[Array.getElem?_toList];exact gdK b (by omega)
  .dsimp only;have d:∀(c:Nat),c=ib+1+k1->c<b.size->∀p,a.toList[ia]?=some p->∀y∈b.toList.drop c,leK kf p y:=λc v n p ex'=>by
    rw[f2]at ex';cases ex';have q:b.toList[c]?=some (b.getD c (Value.none,Value.none)):=by rw[Array.getElem?_toList];exact gdK b n
    refine T7 T.sb q ?_;have:=C k1 (Nat.le_refl _) (by omega);rw[<-v]at this;exact this
   split
   .have hbk:=MS.bulkB T.sb (k:=k1) m (by rw[Array.length_toList];omega) λi z hi u=>by
     refine T7 T.sa f2 ?_;have:=G i hi;rw[Array.getElem?_toList,gdK b (by omega)]at u;cases u;exact KeyOrd.kle_of_klt this
    rw[<-a2W,<-Array.toList_append]at hbk;split
    .rename_i l;exact wpS_pure ⟨g,.inl ⟨_,rfl,Y9 T hbk (eq_of_beq l)⟩⟩
    .rename_i l;have l:¬ib+1+k1=b.size:=λz=>l (beq_iff_eq.mpr z);exact a7x T g ⟨hbk,f,by omega⟩ (d _ rfl (by omega)) (by omega)
   .exact a7x T g ⟨m,f,by omega⟩ (d _ (by omega) (by omega)) (by omega)
theorem R7{Q:Unit->SortSt->Prop}(h:∀a,Good st' a->Q () a):wpS (model prog w) A E s (X0 mg) Q st':=by
 unfold X0;exact wpS_modify (h _ ⟨rfl,rfl,rfl,rfl⟩)
theorem Good.trans{st st' a:SortSt}(h:Good st st')(h2:Good st' a):Good st a:=⟨h2.1.trans h.1,h2.2.1.trans h.2.1,h2.2.2.1.trans h.2.2.1,h2.2.2.2.trans h.2.2.2⟩
theorem a7z(T:Two D kf a b)(f:Cmp prog w A s κ D (ltK kf))(p:kindOf st=κ)(g:Good st st')(h:MI kf a b out ia ib)(v:c0<=ia+ib):wpS (model prog w) A E s (loB a b out ia ib mg ac bc) (R2' kf st a b c0) st':=by
 unfold loB;obtain⟨n,q,m⟩:=h;refine wpS_bind (R7 λP H=>?_);have g:=g.trans H;refine wpS_bind (B3 m λy K t=>?_);refine wpS_bind (J3 f (g.1.trans p) (T.db _ _ K) (λi=>!(ltK kf y (a.getD (ia+i) (Value.none,Value.none)))) (λi hi=>⟨_,gdK a (by omega),T.da _ _ (gdK a (by omega)),rfl⟩) (λi j L M hb=>?_) (by omega) λk N G I=>?_)
 .have hle:leK kf (a.getD (ia+j) (Value.none,Value.none)) y:=by
   unfold leK KeyOrd.kle;unfold ltK at hb;simpa using hb
  have:=KeyOrd.kle_trans (X8 T.sa (i:=ia+i) (j:=ia+j) (by omega) (by rw[Array.getElem?_toList];exact gdK a (by omega)) (by rw[Array.getElem?_toList];exact gdK a (by omega))) hle;unfold KeyOrd.kle at this;unfold ltK;rw[this];rfl
 .dsimp only;have l:ltK kf y (a.getD (a.size-1) (Value.none,Value.none))=true:=T.last y (List.mem_of_getElem? t) _ (gdK a (by omega));have J:ia+k<a.size:=by
   refine Nat.lt_of_not_le λO=>?_;have:=G (a.size-1-ia) (by omega);rw[show ia+(a.size-1-ia)=a.size-1 by omega,l]at this;cases this
  have c:∀d,d=ia+k->∀u,b.toList[ib]?=some u->∀x∈a.toList.drop d,leK kf u x:=λd e u B=>by
   rw[t]at B;cases B;have r:a.toList[d]?=some (a.getD d (Value.none,Value.none)):=by rw[Array.getElem?_toList];exact gdK a (by omega)
   refine T7 T.sa r ?_;have:=I k (Nat.le_refl _) (by omega);rw[<-e]at this;refine KeyOrd.kle_of_klt ?_;unfold KeyOrd.klt;unfold ltK at this;simpa using this
  split
  .have hbk:=MS.bulkA T.sa k n (by rw[Array.length_toList];omega) λi z hi C=>by
    refine T7 T.sb t ?_;have:=G i hi;rw[Array.getElem?_toList,gdK a (by omega)]at C;cases C;unfold leK KeyOrd.kle;unfold ltK at this;simpa using this
   rw[<-a2W,<-Array.toList_append]at hbk;split
   .rename_i o;exact wpS_pure ⟨g,.inl ⟨_,rfl,X9 T hbk (eq_of_beq o)⟩⟩
   .rename_i o;have o:¬ia+k+1=a.size:=λz=>o (beq_iff_eq.mpr z);split
    .rename_i F;have F:=eq_of_beq F;omega
    .exact a7y T f p g ⟨hbk,by omega,m⟩ (c _ rfl) (by omega)
  .exact a7y T f p g ⟨n,q,m⟩ (c _ (by omega)) v
def P1(kf:Keyed->O.α)(st:SortSt)(a b:Array Keyed)(c0:Nat)(c:T1)(st':SortSt):Prop:=Good st st'/\((∃r,c.1=some r/\C4 kf a b r)∨(c.1=none/\MI kf a b c.2.1 c.2.2.1 c.2.2.2.1/\c0<=c.2.2.1+c.2.2.2.1))
def Y1(kf:Keyed->O.α)(st:SortSt)(a b:Array Keyed)(c0:Nat)(c:T1)(st':SortSt):Prop:=Good st st'/\c.1=none/\MI kf a b c.2.1 c.2.2.1 c.2.2.2.1/\c0<=c.2.2.1+c.2.2.2.1
def R1'(kf:Keyed->O.α)(st:SortSt)(a b:Array Keyed)(c0:Nat)(r:ForInStep T1)(st':SortSt):Prop:=match r with | .done c'=>P1 kf st a b c0 c' st' | .yield c'=>Y1 kf st a b c0 c' st'
theorem b2G(T:Two D kf a b)(l:Cmp prog w A s κ D (ltK kf))(q:kindOf st=κ)(g:Good st st')(h:MI kf a b out ia ib)(o:c0<=ia+ib):wpS (model prog w) A E s (loA a b out ia ib ac bc mg) (R1' kf st a b (c0+1)) st':=by
 unfold loA;obtain⟨j,n,d⟩:=h;refine wpS_bind (B3 d λy p m=>?_);refine wpS_bind (B3 (by omega) λx f1 f2=>?_);refine wpS_bind (a0k l (g.1.trans q) (T.db _ _ p) (T.da _ _ f1) ?_);dsimp only;cases hb:ltK kf y x with
 |true =>
  rw[if_pos rfl];refine wpS_bind (B3 d λr k c=>?_);rw[m]at c;cases c;have f:=j.stepB T.sb m (T7 T.sa f2 (KeyOrd.kle_of_klt hb));rw[<-Array.toList_push]at f;split
  .rename_i e;exact wpS_pure ⟨g,.inl ⟨_,rfl,Y9 T f (eq_of_beq e)⟩⟩
  .rename_i e;have e:¬ib+1=b.size:=λz=>e (beq_iff_eq.mpr z);have i:MI kf a b (out.push y) ia (ib+1):=⟨f,n,by omega⟩;split
   .exact wpS_pure ⟨g,.inr ⟨rfl,i,by show c0+1<=ia+(ib+1);omega⟩⟩
   .exact wpS_pure ⟨g,rfl,i,by show c0+1<=ia+(ib+1);omega⟩
 |false =>
  rw[if_neg (by simp)];refine wpS_bind (B3 (by omega) λt k c=>?_);rw[f2]at c;cases c;have f:=j.stepA T.sa f2 (T7 T.sb m hb);rw[<-Array.toList_push]at f;split
  .rename_i e;exact wpS_pure ⟨g,.inl ⟨_,rfl,X9 T f (eq_of_beq e)⟩⟩
  .rename_i e;have e:¬ia+1+1=a.size:=λz=>e (beq_iff_eq.mpr z);have i:MI kf a b (out.push x) (ia+1) ib:=⟨f,by omega,d⟩;split
   .exact wpS_pure ⟨g,.inr ⟨rfl,i,by show c0+1<=ia+1+ib;omega⟩⟩
   .exact wpS_pure ⟨g,rfl,i,by show c0+1<=ia+1+ib;omega⟩
theorem P7{n:String}{Q:Unit->SortSt->Prop}(h:Q () st):wpS (model prog w) A E s (liftM (rule n):StateT SortSt Sem Unit) Q st:=wpS_lift (wpAny_rule ⟨rfl,h⟩)
theorem a5d(T:Two D kf a b)(l:Cmp prog w A s κ D (ltK kf))(o:kindOf st=κ)(ha:0<a.size)(hb:0<b.size)(h0:∀y,b.toList[0]?=some y->∀x∈a.toList,leK kf y x){Q:Array Keyed->SortSt->Prop}
  (q:∀r st',C4 kf a b r->Good st st'->Q r st'):wpS (model prog w) A E s (a2z a b) Q st:=by
 rw[a5Q];refine wpS_bind (P7 ?_);refine wpS_bind (B3 hb λy f j=>?_);have k:MS kf a.toList b.toList (#[y]:Array Keyed).toList 0 1:=by
  have z:MS kf a.toList b.toList [] 0 0:=⟨.nil,.nil,(λ_ h=>nomatch h),λ_ h=>nomatch h⟩;exact z.stepB T.sb j (λx u=>h0 y j x u)
 have t:Good st st:=⟨rfl,rfl,rfl,rfl⟩;split
 .rename_i e;exact wpS_pure (q _ _ (Y9 T k (eq_of_beq e)) t)
 .rename_i e;have e:¬1=b.size:=λz=>e (beq_iff_eq.mpr z);split
  .rename_i n;exact wpS_pure (q _ _ (X9 T k (eq_of_beq n)) t)
  .rename_i n;have n:¬0+1=a.size:=λz=>n (beq_iff_eq.mpr z);refine wpS_bind (wpS_get ?_);refine wpS_bind (wpS_mono (wpS_forRange (I:=λx c st'=>Good st st'/\c.1=none/\MI kf a b c.2.1 c.2.2.1 c.2.2.2.1/\x+1<=c.2.2.1+c.2.2.2.1)
    (Q:=λc st'=>Good st st'/\∃r,c.1=some r/\C4 kf a b r) ?step ?fin ⟨t,rfl,⟨k,by show 0+1<a.size;omega,by show 1<b.size;omega⟩,Nat.le_refl _⟩) ?post)
   case post =>
    rintro c st' ⟨g,r,f,j⟩;obtain⟨L,J⟩:=c;dsimp only at f;subst f;exact wpS_pure (q _ _ j g)
   case fin =>
    rintro c st' ⟨g,f,⟨_,h1,h2⟩,K⟩;exfalso;omega
   case step =>
    rintro x c F _ u ⟨g,f,p,v⟩;refine wpS_bind (wpS_mono (wpS_forRange (I:=λz d st'=>Y1 kf st a b (x+1+min z 1) d st') (Q:=λd st'=>P1 kf st a b (x+2) d st') ?s1 ?f1 ⟨g,rfl,p,by show x+1+min 0 1<=c.2.2.1+c.2.2.2.1;omega⟩) ?p1)
    case f1 =>
     rintro d st' ⟨g,f,h1,h2⟩;exact⟨g,.inr ⟨f,h1,by omega⟩⟩
    case s1 =>
     rintro z d st' _ B ⟨g,f,h1,h2⟩;refine wpS_mono (b2G T l o g h1 (c0:=x+1) (by omega)) λr m i=>?_;cases r with
     |done c'=>exact i
     | «yield» c'=>exact⟨i.1,i.2.1,i.2.2.1,by have:=i.2.2.2;omega⟩
    case p1 =>
     rintro d st' ⟨g,hd⟩;obtain⟨C,H⟩:=d;rcases hd with⟨r,f,j⟩|⟨f,h1,h2⟩
     .dsimp only at f;subst f;exact wpS_pure ⟨g,r,rfl,j⟩
     .dsimp only at f;subst f;refine wpS_bind (P7 ?_);refine wpS_bind (wpS_mono (wpS_forRange (I:=λz d st'=>Y2 kf st a b (x+2) d st') (Q:=λd st'=>P2 kf st a b (x+2) d st') ?s2 ?f2 ⟨g,rfl,h1,h2⟩) ?p2)
      case f2 =>
       rintro d st' ⟨g,f,h1,h2⟩;exact⟨g,.inr ⟨f,h1,h2⟩⟩
      case s2 =>
       rintro z d st' _ B ⟨g,f,h1,h2⟩;split
       .refine wpS_mono (a7z T l o g h1 h2) λr m i=>?_;cases r<;>exact i
       .refine wpS_mono (a7z T l o g h1 h2) λr m i=>?_;cases r<;>exact i
      case p2 =>
       rintro d st' ⟨g,hd⟩;obtain⟨C,H⟩:=d;rcases hd with⟨r,f,j⟩|⟨f,h1,h2⟩
       .dsimp only at f;subst f;exact wpS_pure ⟨g,r,rfl,j⟩
       .dsimp only at f;subst f;refine wpS_bind (R7 λM G=>?_);exact wpS_pure ⟨g.trans G,rfl,h1,h2⟩
end
section
variable {O:KeyOrd}{kf:Keyed->O.α}{la lb o:List Keyed}{na nb:Nat}
structure MH(kf:Keyed->O.α)(la lb o:List Keyed)(na nb:Nat):Prop where
 perm:o.Perm (la.drop na++lb.drop nb)
 sorted:o.Pairwise (leK kf)
 ra:∀x∈la.take na,∀y∈o,leK kf x y
 rb:∀x∈lb.take nb,∀y∈o,leK kf x y
theorem a1n{l:List Keyed}{i:Nat}{x:Keyed}(hs:l.Pairwise (leK kf))(h:l[i]?=some x):∀y∈l.take i,leK kf y x:=λy a=>by
 have:=hs.take (i:=i+1);rw[R8 h,List.pairwise_append]at this;exact this.2.2 y a x (List.mem_singleton.mpr rfl)
theorem MH.stepA{x:Keyed}(h:MH kf la lb o (na+1) nb)(hs:la.Pairwise (leK kf))(e:la[na]?=some x)(hb:∀y∈lb.take nb,leK kf y x):MH kf la lb (x::o) na nb:=by
 have c:x∈la.take (na+1):=by rw[R8 e];exact List.mem_append_right _ (List.mem_singleton.mpr rfl)
 refine⟨?_,?_,λz b y a=>?_,λz b y a=>?_⟩
 .rw[Y8 e,List.cons_append];exact h.perm.cons x
 .rw[List.pairwise_cons];exact⟨λy a=>h.ra x c y a,h.sorted⟩
 .rcases List.mem_cons.mp a with rfl|a
  .exact a1n hs e z b
  .exact h.ra z (by rw[R8 e];exact List.mem_append_left _ b) y a
 .rcases List.mem_cons.mp a with rfl|a
  .exact hb z b
  .exact h.rb z b y a
theorem MH.swap(h:MH kf la lb o na nb):MH kf lb la o nb na:=⟨h.perm.trans List.perm_append_comm,h.sorted,h.rb,h.ra⟩
theorem MH.stepB{x:Keyed}(h:MH kf la lb o na (nb+1))(hs:lb.Pairwise (leK kf))(e:lb[nb]?=some x)(ha:∀y∈la.take na,leK kf y x):MH kf la lb (x::o) na nb:=(h.swap.stepA hs e ha).swap
theorem MH.bulkA(hs:la.Pairwise (leK kf)){at_:Nat}:∀(k:Nat) {o:List Keyed},MH kf la lb o (at_+k) nb->at_+k<=la.length->(∀i x,at_<=i->i<at_+k->la[i]?=some x->∀y∈lb.take nb,leK kf y x)->MH kf la lb ((la.take (at_+k)).drop at_++o) at_ nb
 |0,o,h,hl,_=>by
  rw[Nat.add_zero,List.drop_eq_nil_of_le (by rw[List.length_take];omega),List.nil_append];exact h
 |k+1,o,h,hl,hk=>by
  obtain⟨x,a⟩:∃x,la[at_+k]?=some x:=⟨_,List.getElem?_eq_getElem (by omega)⟩;have h1:=MH.stepA (na:=at_+k) h hs a (hk _ x (by omega) (by omega) a);have h2:=MH.bulkA hs k h1 (by omega) λi y h1 h2 e=>hk i y h1 (by omega) e;rw[show at_+(k+1)=at_+k+1 by omega,R8 a,List.drop_append_of_le_length (by rw[List.length_take];omega),List.append_assoc];exact h2
theorem MH.bulkB(hs:lb.Pairwise (leK kf)){at_ k:Nat}(h:MH kf la lb o na (at_+k))(hl:at_+k<=lb.length)(a:∀i x,at_<=i->i<at_+k->lb[i]?=some x->∀y∈la.take na,leK kf y x):MH kf la lb ((lb.take (at_+k)).drop at_++o) na at_ :=
 (MH.bulkA hs k h.swap hl a).swap
theorem MH.done(h:MH kf la lb o 0 nb)(hs:lb.Pairwise (leK kf)):a1g kf la lb (la.take 0++lb.take nb++o):=by
 rw[List.take_zero,List.nil_append];have hp:=h.perm;rw[List.drop_zero]at hp;refine⟨?_,?_⟩
 .refine(List.Perm.append_left _ hp).trans ?_;rw[<-List.append_assoc];refine(List.Perm.append_right _ List.perm_append_comm).trans ?_;rw[List.append_assoc,List.take_append_drop]
 .rw[List.pairwise_append];exact⟨hs.take,h.sorted,h.rb⟩
theorem MH.firstB(h:MH kf la lb o na nb)(a:la.Pairwise (leK kf))(hs:lb.Pairwise (leK kf))(hl:∀y∈lb.take nb,∀x∈la.take na,leK kf y x):a1g kf la lb (lb.take nb++la.take na++o):=by
 refine⟨?_,?_⟩
 .refine(List.Perm.append_left _ h.perm).trans ?_;rw[List.append_assoc,<-List.append_assoc (la.take na),List.take_append_drop];refine List.perm_append_comm.trans ?_;rw[List.append_assoc];refine List.Perm.append_left _ (List.perm_append_comm.trans ?_);rw[List.take_append_drop]
 .rw[List.pairwise_append];refine⟨?_,h.sorted,λx c y b=>?_⟩
  .rw[List.pairwise_append];exact⟨hs.take,a.take,hl⟩
  .rcases List.mem_append.mp c with q|q
   .exact h.rb x q y b
   .exact h.ra x q y b
end
noncomputable def a2A:Array Keyed->Array Keyed->StateT SortSt Sem (Array Keyed):=sortPriv% PySem.Builtin.mergeHi
noncomputable def N6(a b out:Array Keyed)(na nb:Nat):Array Keyed:=a.extract 0 na++b.extract 0 nb++out.reverse
noncomputable def U0(a b out:Array Keyed)(na nb:Nat):Array Keyed:=b.extract 0 nb++a.extract 0 na++out.reverse
abbrev U1:Type:=Option (Array Keyed)×Nat×Nat×Array Keyed×Nat×Nat
abbrev U2:Type:=Option (Array Keyed)×Nat×Nat×Array Keyed×Nat×Nat×Nat
noncomputable def hiD(a b:Array Keyed)(na nb:Nat)(out:Array Keyed)(mg k k1:Nat):StateT SortSt Sem (ForInStep U2) :=
 elem' a (na-1)>>=λx =>
 if (na-1==0)=true then pure (.done (some (N6 a b (out.push x) (na-1) nb),na-1,nb,out.push x,mg,k,k1))
 else if (decide (k<7) && decide (k1<7))=true then pure (.done (none,na-1,nb,out.push x,mg,k,k1))
 else pure (.yield (none,na-1,nb,out.push x,mg,k,k1))
noncomputable def hiC(a b:Array Keyed)(na nb:Nat)(out:Array Keyed)(mg k bc:Nat):StateT SortSt Sem (ForInStep U2) :=
 elem' b (nb-1)>>=λy =>
 if (nb-1==1)=true then pure (.done (some (U0 a b (out.push y) na (nb-1)),na,nb-1,out.push y,mg,k,bc))
 else elem' a (na-1)>>=λx=>O9 true x b 0 (nb-1) (nb-1-1)>>=λr =>
  match r with
  |some at_=>(if nb-1-at_ > 0 then
    (if (at_==1)=true then pure (.done (some (U0 a b (out.push y++(b.extract at_ (nb-1)).reverse) na at_),na,at_,out.push y++(b.extract at_ (nb-1)).reverse,mg,k,nb-1-at_))
    else if (at_==0)=true then pure (.done (some (N6 a b (out.push y++(b.extract at_ (nb-1)).reverse) na at_),na,at_,out.push y++(b.extract at_ (nb-1)).reverse,mg,k,nb-1-at_))
    else hiD a b na at_ (out.push y++(b.extract at_ (nb-1)).reverse) mg k (nb-1-at_))
   else hiD a b na (nb-1) (out.push y) mg k (nb-1-at_))
  |_=>pure (.done (some (N6 a b (out.push y) na (nb-1)),na,nb-1,out.push y,mg,k,bc))
noncomputable def hiB(a b:Array Keyed)(na nb:Nat)(out:Array Keyed)(mg ac bc:Nat):StateT SortSt Sem (ForInStep U2) :=
 X0 mg>>=λ_=>elem' b (nb-1)>>=λy=>O9 false y a 0 na (na-1)>>=λr =>
 match r with
 |some at_=>(if na-at_ > 0 then
   (if (at_==0)=true then pure (.done (some (N6 a b (out++(a.extract at_ na).reverse) at_ nb),at_,nb,out++(a.extract at_ na).reverse,mg,na-at_,bc))
   else hiC a b at_ nb (out++(a.extract at_ na).reverse) mg (na-at_) bc)
  else hiC a b na nb out mg (na-at_) bc)
 |_=>pure (.done (some (N6 a b out na nb),na,nb,out,mg,ac,bc))
noncomputable def hiA(a b:Array Keyed)(na nb:Nat)(out:Array Keyed)(ac bc mg:Nat):StateT SortSt Sem (ForInStep U1) :=
 elem' b (nb-1)>>=λy=>elem' a (na-1)>>=λx=>lt' y x>>=λr =>
 match r with
 |some aWins=>(if aWins=true then elem' a (na-1)>>=λx =>
   (if (na-1==0)=true then pure (.done (some (N6 a b (out.push x) (na-1) nb),na-1,nb,out.push x,ac+1,0))
   else if ac+1 ≥ mg then pure (.done (none,na-1,nb,out.push x,ac+1,0))
   else pure (.yield (none,na-1,nb,out.push x,ac+1,0)))
  else elem' b (nb-1)>>=λy =>
   (if (nb-1==1)=true then pure (.done (some (U0 a b (out.push y) na (nb-1)),na,nb-1,out.push y,0,bc+1))
   else if bc+1 ≥ mg then pure (.done (none,na,nb-1,out.push y,0,bc+1))
   else pure (.yield (none,na,nb-1,out.push y,0,bc+1))))
 |_=>pure (.done (some (N6 a b out na nb),na,nb,out,ac,bc))
theorem a5R(a b:Array Keyed):a2A a b=(do
 rule "list.sort.merge-hi"
 let y <-elem' a (a.size-1)
 if (a.size-1==0)=true then pure (N6 a b #[y] (a.size-1) b.size)
 else if (b.size==1)=true then pure (U0 a b #[y] (a.size-1) b.size)
 else do
  let g <-get
  let r <-forIn [:a.size+b.size] ((none,a.size-1,b.size,#[y],gallopOf g):Option (Array Keyed)×Nat×Nat×Array Keyed×Nat) λ_ c=>do
   let r <-forIn [:a.size+b.size] ((none,c.2.1,c.2.2.1,c.2.2.2.1,0,0):U1) λ_ d=>hiA a b d.2.1 d.2.2.1 d.2.2.2.1 d.2.2.2.2.1 d.2.2.2.2.2 c.2.2.2.2
   match r.1 with
   |some q=>pure (ForInStep.done (some q,r.2.1,r.2.2.1,r.2.2.2.1,c.2.2.2.2))
   |none=>do
    rule "list.sort.gallop"
    let t <-forIn [:a.size+b.size] ((none,r.2.1,r.2.2.1,r.2.2.2.1,c.2.2.2.2+1,r.2.2.2.2.1,r.2.2.2.2.2):U2) λ_ d =>
     if d.2.2.2.2.1 > 1 then hiB a b d.2.1 d.2.2.1 d.2.2.2.1 (d.2.2.2.2.1-1) d.2.2.2.2.2.1 d.2.2.2.2.2.2 else hiB a b d.2.1 d.2.2.1 d.2.2.2.1 d.2.2.2.2.1 d.2.2.2.2.2.1 d.2.2.2.2.2.2
    match t.1 with
    |some q=>pure (ForInStep.done (some q,t.2.1,t.2.2.1,t.2.2.2.1,t.2.2.2.2.1))
    |none=>do
     X0 (t.2.2.2.2.1+1)
     pure (ForInStep.yield (none,t.2.1,t.2.2.1,t.2.2.2.1,t.2.2.2.2.1+1))
  match r.1 with
  |some q=>pure q
  |none=>unsupported "internal:list.sort.merge-bound"):=by
 show(_>>=_)=(_>>=_);refine congrArg _ (funext λ_=>?_);dsimp only;refine congrArg _ (funext λy=>?_);refine ite_congr rfl (λ_=>rfl) (λ_=>ite_congr rfl (λ_=>rfl) λ_=>?_);refine congrArg _ (funext λg=>?_);refine congr (congrArg _ (congrArg _ (funext λ_=>funext λc=>?_))) (funext λr=>?_)
 .refine congr (congrArg _ (congrArg _ (funext λ_=>funext λd=>?_))) (funext λr=>?_)
  .rfl
  .rcases r with⟨_|q,r⟩
   .dsimp only;refine congrArg _ (funext λ_=>?_);refine congr (congrArg _ (congrArg _ (funext λ_=>funext λd=>?_))) (funext λr=>?_)
    .rfl
    .rcases r with⟨_|q,r⟩<;>rfl
   .rfl
 .rcases r with⟨_|q,r⟩
  .dsimp only
  .rfl
theorem a1d{α:Type}(a:Array α)(i n:Nat):(a.extract i n).toList=(a.toList.take n).drop i:=by
 rw[Array.toList_extract];simp[List.extract_eq_drop_take']
theorem a6i(a b out:Array Keyed)(na nb:Nat):(N6 a b out na nb).toList=a.toList.take na++b.toList.take nb++out.toList.reverse:=by
 unfold N6;rw[Array.toList_append,Array.toList_append,a1d,a1d,Array.toList_reverse,List.drop_zero,List.drop_zero]
theorem a4R(a b out:Array Keyed)(na nb:Nat):(U0 a b out na nb).toList=b.toList.take nb++a.toList.take na++out.toList.reverse:=by
 unfold U0;rw[Array.toList_append,Array.toList_append,a1d,a1d,Array.toList_reverse,List.drop_zero,List.drop_zero]
theorem a0t(out:Array Keyed)(x:Keyed):(out.push x).toList.reverse=x::out.toList.reverse:=by
 rw[Array.toList_push,List.reverse_append];rfl
theorem a8y(out a:Array Keyed)(i n:Nat):(out++(a.extract i n).reverse).toList.reverse=(a.toList.take n).drop i++out.toList.reverse:=by
 rw[Array.toList_append,List.reverse_append,Array.toList_reverse,List.reverse_reverse,a1d]
section
variable {prog:Program}{w:World}{A:Around}{E:Value->Shared->Prop}{s:Shared}{κ:SortKind}{D:Keyed->Prop}{O:KeyOrd}{kf:Keyed->O.α}{a b out:Array Keyed}{na nb:Nat}{st:SortSt}
def a4c(kf:Keyed->O.α)(a b:Array Keyed):Prop:=∀y,b.toList[0]?=some y->∀x∈a.toList,ltK kf y x=true
theorem S7{l:List Keyed}{i:Nat}{x z:Keyed}(hs:l.Pairwise (leK kf))(e:l[i]?=some x)(h:leK kf x z):∀y∈l.take (i+1),leK kf y z:=λy a=>by
 rw[R8 e]at a;rcases List.mem_append.mp a with a|a
 .exact KeyOrd.kle_trans (a1n hs e y a) h
 .rw[List.mem_singleton.mp a];exact h
def MJ(kf:Keyed->O.α)(a b out:Array Keyed)(na nb:Nat):Prop:=MH kf a.toList b.toList out.toList.reverse na nb/\1<=na/\2<=nb/\na<=a.size/\nb<=b.size
theorem Z0(T:Two D kf a b)(h:MH kf a.toList b.toList out.toList.reverse na nb)(hi:na=0):C4 kf a b (N6 a b out na nb):=by
 subst hi;unfold C4;rw[a6i];exact h.done T.sb
theorem T9(T:Two D kf a b)(F:a4c kf a b)(h:MH kf a.toList b.toList out.toList.reverse na nb)(hi:nb=1)(hb:0<b.size):C4 kf a b (U0 a b out na nb):=by
 subst hi;unfold C4;rw[a4R];refine h.firstB T.sa T.sb λy c x d=>?_;have e:b.toList[0]?=some (b.getD 0 (Value.none,Value.none)):=by rw[Array.getElem?_toList];exact gdK b hb
 rw[R8 e,List.take_zero,List.nil_append,List.mem_singleton]at c;rw[c];exact KeyOrd.kle_of_klt (F _ e x (List.mem_of_mem_take d))
def P4(kf:Keyed->O.α)(st:SortSt)(a b:Array Keyed)(c0:Nat)(c:U2)(st':SortSt):Prop:=Good st st'/\((∃r,c.1=some r/\C4 kf a b r)∨(c.1=none/\MJ kf a b c.2.2.2.1 c.2.1 c.2.2.1/\c.2.1+c.2.2.1+c0<=a.size+b.size))
def Y4(kf:Keyed->O.α)(st:SortSt)(a b:Array Keyed)(c0:Nat)(c:U2)(st':SortSt):Prop:=Good st st'/\c.1=none/\MJ kf a b c.2.2.2.1 c.2.1 c.2.2.1/\c.2.1+c.2.2.1+c0<=a.size+b.size
def R4(kf:Keyed->O.α)(st:SortSt)(a b:Array Keyed)(c0:Nat)(r:ForInStep U2)(st':SortSt):Prop:=match r with | .done c'=>P4 kf st a b c0 c' st' | .yield c'=>Y4 kf st a b c0 c' st'
variable {c0 mg k k1 bc ac:Nat}{st':SortSt}
theorem a7A(T:Two D kf a b)(g:Good st st')(h:MJ kf a b out na nb)(i:∀x,a.toList[na-1]?=some x->∀y∈b.toList.take nb,leK kf y x)(l:na+nb+c0<=a.size+b.size):wpS (model prog w) A E s (hiD a b na nb out mg k k1) (R4 kf st a b c0) st':=by
 unfold hiD;obtain⟨c,h1,h2,p,o⟩:=h;refine wpS_bind (B3 (by omega) λx m f=>?_);obtain⟨n,rfl⟩:∃n,na=n+1:=⟨na-1,by omega⟩;rw[Nat.add_sub_cancel]at m f i⊢;have d:=c.stepA T.sa f (i x f);rw[<-a0t]at d;split
 .rename_i e;exact wpS_pure ⟨g,.inl ⟨_,rfl,Z0 T d (eq_of_beq e)⟩⟩
 .rename_i e;have e:¬n=0:=λz=>e (beq_iff_eq.mpr z);have j:MJ kf a b (out.push x) n nb:=⟨d,by omega,h2,by omega,o⟩;split
  .exact wpS_pure ⟨g,.inr ⟨rfl,j,by show n+nb+c0<=_;omega⟩⟩
  .exact wpS_pure ⟨g,rfl,j,by show n+nb+c0<=_;omega⟩
theorem a7B(T:Two D kf a b)(F:a4c kf a b)(v:Cmp prog w A s κ D (ltK kf))(K:kindOf st=κ)(g:Good st st')(h:MJ kf a b out na nb)(J:∀y,b.toList[nb-1]?=some y->∀x∈a.toList.take na,leK kf x y)(Q:na+nb+c0<=a.size+b.size):wpS (model prog w) A E s (hiC a b na nb out mg k bc) (R4 kf st a b c0) st':=by
 unfold hiC;obtain⟨q,h1,h2,I,U⟩:=h;refine wpS_bind (B3 (by omega) λy N B=>?_);obtain⟨m,rfl⟩:∃m,nb=m+1:=⟨nb-1,by omega⟩;rw[Nat.add_sub_cancel]at N B J⊢;have l:=q.stepB T.sb B (J y B);rw[<-a0t]at l;split
 .rename_i e;exact wpS_pure ⟨g,.inl ⟨_,rfl,T9 T F l (eq_of_beq e) (by omega)⟩⟩
 .rename_i e;have e:¬m=1:=λz=>e (beq_iff_eq.mpr z);refine wpS_bind (B3 (by omega) λx f1 f2=>?_);refine wpS_bind (J3 v (g.1.trans K) (T.da _ _ f1) (λi=>ltK kf (b.getD (0+i) (Value.none,Value.none)) x) (λi hi=>⟨_,gdK b (by omega),T.db _ _ (gdK b (by omega)),rfl⟩) (λi j O r hb=>?_) (by omega) λat_ V P C=>?_)
  .refine KeyOrd.klt_of_kle_of_klt (X8 T.sb (i:=0+i) (j:=0+j) (by omega) ?_ ?_) hb
   .rw[Array.getElem?_toList];exact gdK b (by omega)
   .rw[Array.getElem?_toList];exact gdK b (by omega)
  .dsimp only;have R:1<=at_:=by
    refine Nat.pos_of_ne_zero λz=>?_;have:=C 0 (by omega) (by omega);have hF:=F (b.getD 0 (Value.none,Value.none)) (by rw[Array.getElem?_toList];exact gdK b (by omega)) x (List.mem_of_getElem? f2);rw[Nat.zero_add]at this;rw[hF]at this;cases this
   have d:∀p,a.toList[na-1]?=some p->∀c,c=at_->∀y∈b.toList.take c,leK kf y p:=λp ex' c W=>by
    rw[f2]at ex';cases ex';obtain⟨n,L⟩:∃n,c=n+1:=⟨c-1,by omega⟩;rw[L];have t:b.toList[n]?=some (b.getD n (Value.none,Value.none)):=by rw[Array.getElem?_toList];exact gdK b (by omega)
    refine S7 T.sb t (KeyOrd.kle_of_klt ?_);have:=P n (by omega);rw[Nat.zero_add]at this;exact this
   split
   .obtain⟨j,r⟩:∃j,m=at_+j:=⟨m-at_,by omega⟩;have f:MH kf a.toList b.toList ((b.toList.take (at_+j)).drop at_++(out.push y).toList.reverse) na at_:=by
     rw[r]at l;refine MH.bulkB T.sb l (by rw[Array.length_toList];omega) λi z M S G=>?_;have:=C i M (by omega);rw[Nat.zero_add]at this;rw[Array.getElem?_toList,gdK b (by omega)]at G;cases G;have u:leK kf x (b.getD i (Value.none,Value.none)):=this;have:=S7 T.sa f2 u;rwa[show na-1+1=na by omega]at this
    rw[<-r,<-a8y]at f;split
    .rename_i o;exact wpS_pure ⟨g,.inl ⟨_,rfl,T9 T F f (eq_of_beq o) (by omega)⟩⟩
    .rename_i o;have o:¬at_=1:=λz=>o (beq_iff_eq.mpr z);split
     .rename_i H;have H:=eq_of_beq H;omega
     .exact a7A T g ⟨f,h1,by omega,I,by omega⟩ (λp ex'=>d p ex' _ rfl) (by omega)
   .exact a7A T g ⟨l,h1,by omega,I,by omega⟩ (λp ex'=>d p ex' _ (by omega)) (by omega)
theorem a7C(T:Two D kf a b)(F:a4c kf a b)(l:Cmp prog w A s κ D (ltK kf))(o:kindOf st=κ)(g:Good st st')(h:MJ kf a b out na nb)(u:na+nb+c0<=a.size+b.size):wpS (model prog w) A E s (hiB a b na nb out mg ac bc) (R4 kf st a b c0) st':=by
 unfold hiB;obtain⟨f,h1,h2,M,G⟩:=h;refine wpS_bind (R7 λS H=>?_);have g:=g.trans H;refine wpS_bind (B3 (by omega) λy L C=>?_);refine wpS_bind (J3 l (g.1.trans o) (T.db _ _ L) (λi=>!(ltK kf y (a.getD (0+i) (Value.none,Value.none)))) (λi hi=>⟨_,gdK a (by omega),T.da _ _ (gdK a (by omega)),rfl⟩) (λi j N p hb=>?_) (by omega) λat_ R P J=>?_)
 .have hle:leK kf (a.getD (0+j) (Value.none,Value.none)) y:=by
   unfold leK KeyOrd.kle;unfold ltK at hb;simpa using hb
  have:=KeyOrd.kle_trans (X8 T.sa (i:=0+i) (j:=0+j) (by omega) (by rw[Array.getElem?_toList];exact gdK a (by omega)) (by rw[Array.getElem?_toList];exact gdK a (by omega))) hle;unfold KeyOrd.kle at this;unfold ltK;rw[this];rfl
 .dsimp only;have d:∀c,c=at_->∀t,b.toList[nb-1]?=some t->∀x∈a.toList.take c,leK kf x t:=λc e t v=>by
   rw[C]at v;cases v;subst e;by_cases I:c=0
   .rw[I,List.take_zero];exact λ_ z=>nomatch z
   obtain⟨n,rfl⟩:∃n,c=n+1:=⟨c-1,by omega⟩;have q:a.toList[n]?=some (a.getD n (Value.none,Value.none)):=by rw[Array.getElem?_toList];exact gdK a (by omega)
   refine S7 T.sa q ?_;have:=P n (by omega);rw[Nat.zero_add]at this;unfold leK KeyOrd.kle;unfold ltK at this;simpa using this
  split
  .obtain⟨j,p⟩:∃j,na=at_+j:=⟨na-at_,by omega⟩;have k:MH kf a.toList b.toList ((a.toList.take (at_+j)).drop at_++out.toList.reverse) at_ nb:=by
    rw[p]at f;refine MH.bulkA T.sa j f (by rw[Array.length_toList];omega) λi z K Q B=>?_;have:=J i K (by omega);rw[Nat.zero_add]at this;rw[Array.getElem?_toList,gdK a (by omega)]at B;cases B;have r:O.klt (kf y) (kf (a.getD i (Value.none,Value.none))):=by
     unfold KeyOrd.klt;unfold ltK at this;simpa using this
    have:=S7 T.sb C (KeyOrd.kle_of_klt r);rwa[show nb-1+1=nb by omega]at this
   rw[<-p,<-a8y]at k;split
   .rename_i m;exact wpS_pure ⟨g,.inl ⟨_,rfl,Z0 T k (eq_of_beq m)⟩⟩
   .rename_i m;have m:¬at_=0:=λz=>m (beq_iff_eq.mpr z);exact a7B T F l o g ⟨k,by omega,h2,by omega,G⟩ (d _ rfl) (by omega)
  .exact a7B T F l o g ⟨f,h1,h2,M,G⟩ (d _ (by omega)) u
def P3(kf:Keyed->O.α)(st:SortSt)(a b:Array Keyed)(c0:Nat)(c:U1)(st':SortSt):Prop:=Good st st'/\((∃r,c.1=some r/\C4 kf a b r)∨(c.1=none/\MJ kf a b c.2.2.2.1 c.2.1 c.2.2.1/\c.2.1+c.2.2.1+c0<=a.size+b.size))
def Y3(kf:Keyed->O.α)(st:SortSt)(a b:Array Keyed)(c0:Nat)(c:U1)(st':SortSt):Prop:=Good st st'/\c.1=none/\MJ kf a b c.2.2.2.1 c.2.1 c.2.2.1/\c.2.1+c.2.2.1+c0<=a.size+b.size
def R3(kf:Keyed->O.α)(st:SortSt)(a b:Array Keyed)(c0:Nat)(r:ForInStep U1)(st':SortSt):Prop:=match r with | .done c'=>P3 kf st a b c0 c' st' | .yield c'=>Y3 kf st a b c0 c' st'
theorem b2H(T:Two D kf a b)(F:a4c kf a b)(l:Cmp prog w A s κ D (ltK kf))(r:kindOf st=κ)(g:Good st st')(h:MJ kf a b out na nb)(p:na+nb+c0<=a.size+b.size):wpS (model prog w) A E s (hiA a b na nb out ac bc mg) (R3 kf st a b (c0+1)) st':=by
 unfold hiA;obtain⟨i,h1,h2,q,t⟩:=h;refine wpS_bind (B3 (by omega) λy o j=>?_);refine wpS_bind (B3 (by omega) λx f1 f2=>?_);refine wpS_bind (a0k l (g.1.trans r) (T.db _ _ o) (T.da _ _ f1) ?_);dsimp only;obtain⟨n,rfl⟩:∃n,na=n+1:=⟨na-1,by omega⟩;obtain⟨m,rfl⟩:∃m,nb=m+1:=⟨nb-1,by omega⟩;rw[Nat.add_sub_cancel]at o j f1 f2⊢;rw[Nat.add_sub_cancel];cases hb:ltK kf y x with
 |true =>
  rw[if_pos rfl];refine wpS_bind (B3 (by omega) λv k c=>?_);rw[f2]at c;cases c;have d:=i.stepA T.sa f2 (S7 T.sb j (KeyOrd.kle_of_klt hb));rw[<-a0t]at d;split
  .rename_i e;exact wpS_pure ⟨g,.inl ⟨_,rfl,Z0 T d (eq_of_beq e)⟩⟩
  .rename_i e;have e:¬n=0:=λz=>e (beq_iff_eq.mpr z);have f:MJ kf a b (out.push x) n (m+1):=⟨d,by omega,h2,by omega,t⟩;split
   .exact wpS_pure ⟨g,.inr ⟨rfl,f,by show n+(m+1)+(c0+1)<=_;omega⟩⟩
   .exact wpS_pure ⟨g,rfl,f,by show n+(m+1)+(c0+1)<=_;omega⟩
 |false =>
  rw[if_neg (by simp)];refine wpS_bind (B3 (by omega) λu k c=>?_);rw[j]at c;cases c;have d:=i.stepB T.sb j (S7 T.sa f2 hb);rw[<-a0t]at d;split
  .rename_i e;exact wpS_pure ⟨g,.inl ⟨_,rfl,T9 T F d (eq_of_beq e) (by omega)⟩⟩
  .rename_i e;have e:¬m=1:=λz=>e (beq_iff_eq.mpr z);have f:MJ kf a b (out.push y) (n+1) m:=⟨d,h1,by omega,q,by omega⟩;split
   .exact wpS_pure ⟨g,.inr ⟨rfl,f,by show n+1+m+(c0+1)<=_;omega⟩⟩
   .exact wpS_pure ⟨g,rfl,f,by show n+1+m+(c0+1)<=_;omega⟩
theorem a5e(T:Two D kf a b)(F:a4c kf a b)(k:Cmp prog w A s κ D (ltK kf))(o:kindOf st=κ)(ha:0<a.size)(hb:0<b.size){Q:Array Keyed->SortSt->Prop}
  (q:∀r st',C4 kf a b r->Good st st'->Q r st'):wpS (model prog w) A E s (a2A a b) Q st:=by
 rw[a5R];refine wpS_bind (P7 ?_);refine wpS_bind (B3 (by omega) λy f l=>?_);have j:MH kf a.toList b.toList (#[y]:Array Keyed).toList.reverse (a.size-1) b.size:=by
  have z:MH kf a.toList b.toList [] (a.size-1+1) b.size:=by
   refine⟨?_,.nil,(λ_ _ _ h=>nomatch h),λ_ _ _ h=>nomatch h⟩;rw[List.drop_eq_nil_of_le (by rw[Array.length_toList];omega),List.drop_eq_nil_of_le (by rw[Array.length_toList];omega)];exact .nil
  exact z.stepA T.sa l (λx u=>KeyOrd.kle_of_klt (T.last x (List.mem_of_mem_take u) y f))
 have t:Good st st:=⟨rfl,rfl,rfl,rfl⟩;split
 .rename_i e;exact wpS_pure (q _ _ (Z0 T j (eq_of_beq e)) t)
 .rename_i e;have e:¬a.size-1=0:=λz=>e (beq_iff_eq.mpr z);split
  .rename_i n;exact wpS_pure (q _ _ (T9 T F j (eq_of_beq n) hb) t)
  .rename_i n;have n:¬b.size=1:=λz=>n (beq_iff_eq.mpr z);refine wpS_bind (wpS_get ?_);refine wpS_bind (wpS_mono (wpS_forRange (I:=λx c st'=>Good st st'/\c.1=none/\MJ kf a b c.2.2.2.1 c.2.1 c.2.2.1/\c.2.1+c.2.2.1+(x+1)<=a.size+b.size)
    (Q:=λc st'=>Good st st'/\∃r,c.1=some r/\C4 kf a b r) ?step ?fin ⟨t,rfl,⟨j,by show 1<=a.size-1;omega,by show 2<=b.size;omega,by show a.size-1<=a.size;omega,Nat.le_refl _⟩,by show a.size-1+b.size+(0+1)<=_;omega⟩) ?post)
   case post =>
    rintro c st' ⟨g,r,f,l⟩;obtain⟨M,K⟩:=c;dsimp only at f;subst f;exact wpS_pure (q _ _ l g)
   case fin =>
    rintro c st' ⟨g,f,⟨_,h1,h2,_⟩,L⟩;exfalso;omega
   case step =>
    rintro x c G _ u ⟨g,f,p,v⟩;refine wpS_bind (wpS_mono (wpS_forRange (I:=λz d st'=>Y3 kf st a b (x+1+min z 1) d st') (Q:=λd st'=>P3 kf st a b (x+2) d st') ?s1 ?f1 ⟨g,rfl,p,by show c.2.1+c.2.2.1+(x+1+min 0 1)<=_;omega⟩) ?p1)
    case f1 =>
     rintro d st' ⟨g,f,h1,h2⟩;exact⟨g,.inr ⟨f,h1,by omega⟩⟩
    case s1 =>
     rintro z d st' _ B ⟨g,f,h1,h2⟩;refine wpS_mono (b2H T F k o g h1 (c0:=x+1) (by omega)) λr m i=>?_;cases r with
     |done c'=>exact i
     | «yield» c'=>exact⟨i.1,i.2.1,i.2.2.1,by have:=i.2.2.2;omega⟩
    case p1 =>
     rintro d st' ⟨g,hd⟩;obtain⟨C,J⟩:=d;rcases hd with⟨r,f,l⟩|⟨f,h1,h2⟩
     .dsimp only at f;subst f;exact wpS_pure ⟨g,r,rfl,l⟩
     .dsimp only at f;subst f;refine wpS_bind (P7 ?_);refine wpS_bind (wpS_mono (wpS_forRange (I:=λz d st'=>Y4 kf st a b (x+2) d st') (Q:=λd st'=>P4 kf st a b (x+2) d st') ?s2 ?f2 ⟨g,rfl,h1,h2⟩) ?p2)
      case f2 =>
       rintro d st' ⟨g,f,h1,h2⟩;exact⟨g,.inr ⟨f,h1,h2⟩⟩
      case s2 =>
       rintro z d st' _ B ⟨g,f,h1,h2⟩;split
       .refine wpS_mono (a7C T F k o g h1 h2) λr m i=>?_;cases r<;>exact i
       .refine wpS_mono (a7C T F k o g h1 h2) λr m i=>?_;cases r<;>exact i
      case p2 =>
       rintro d st' ⟨g,hd⟩;obtain⟨C,J⟩:=d;rcases hd with⟨r,f,l⟩|⟨f,h1,h2⟩
       .dsimp only at f;subst f;exact wpS_pure ⟨g,r,rfl,l⟩
       .dsimp only at f;subst f;refine wpS_bind (R7 λN H=>?_);exact wpS_pure ⟨g.trans H,rfl,h1,h2⟩
end
noncomputable def a6D(arr merged:Array Keyed)(sa:Nat):Array Keyed:=merged.toList.zipIdx.foldl (λa (p,j)=>a.setIfInBounds (sa+j) p) arr
noncomputable def mgC(sa:Nat)(merged:Array Keyed):StateT SortSt Sem Bool :=
 (modify λs=>SortSt.mk' (kindOf s) (a6D (arrOf s) merged sa) (pendingOf s) (gallopOf s) (failedOf s))>>=λ_=>get>>=λs=>pure (failedOf s).isNone
noncomputable def mgB(s:SortSt)(sa na sb nb:Nat):StateT SortSt Sem Bool :=
 elem' (arrOf s) (sa+na-1)>>=λx=>O9 true x (arrOf s) sb nb (nb-1)>>=λr=>match r with
 |some n=>(if (n==0)=true then pure true
  else if na<=n then a2z ((arrOf s).extract sa sb) ((arrOf s).extract sb (sb+n))>>=mgC sa
  else a2A ((arrOf s).extract sa sb) ((arrOf s).extract sb (sb+n))>>=mgC sa)
 |_=>pure false
noncomputable def mgA(s:SortSt)(sa na sb nb:Nat):StateT SortSt Sem Bool :=
 elem' (arrOf s) sb>>=λy=>O9 false y (arrOf s) sa na 0>>=λr=>match r with
 |some k=>(if (na-k==0)=true then pure true else mgB s (sa+k) (na-k) sb nb)
 |_=>pure false
theorem a5S(i:Nat):mergeAt' i=(get>>=λs=>match ((pendingOf s)[i]?,(pendingOf s)[i+1]?)with
 |(some (sa,na,pw),some (sb,nb,_))=>set (SortSt.mk' (kindOf s) (arrOf s) (((pendingOf s).setIfInBounds i (sa,na+nb,pw)).eraseIdxIfInBounds (i+1)) (gallopOf s) (failedOf s))>>=λ_=>mgA s sa na sb nb
 |_=>liftM (unsupported "internal:list.sort.pending" : Sem Bool)):=by
 show(_>>=_)=(_>>=_);refine congrArg _ (funext λs=>?_);dsimp only;rcases(pendingOf s)[i]? with _|⟨sa,na,pw⟩
 .rfl
 rcases(pendingOf s)[i+1]? with _|⟨sb,nb,pw2⟩
 .rfl
 dsimp only;refine congrArg _ (funext λ_=>?_);unfold mgA;refine congrArg _ (funext λy=>?_);refine congrArg _ (funext λr=>?_);rcases r with _|k
 .rfl
 dsimp only;refine ite_congr rfl (λ_=>rfl) λ_=>?_;unfold mgB;refine congrArg _ (funext λx=>?_);refine congrArg _ (funext λr=>?_);rcases r with _|n
 .rfl
 rfl
theorem a3Q:∀(l:List Keyed) (arr:Array Keyed) (sa j:Nat),sa+j+l.length<=arr.size ->
  ((l.zipIdx j).foldl (λa (p:Keyed×Nat)=>a.setIfInBounds (sa+p.2) p.1) arr).toList=arr.toList.take (sa+j)++l++arr.toList.drop (sa+j+l.length)
 |[],arr,sa,j,h=>by simp
 |x::l,arr,sa,j,h=>by
  rw[List.length_cons]at h;rw[List.zipIdx_cons,List.foldl_cons,a3Q l _ sa (j+1) (by rw[Array.size_setIfInBounds];omega)];rw[Array.toList_setIfInBounds];have b:sa+j<arr.toList.length:=by rw[Array.length_toList];omega
  rw[List.length_cons,show sa+(j+1)=sa+j+1 by omega];rw[List.take_set,List.drop_set_of_lt (by omega)];rw[List.take_succ_eq_append_getElem b,List.set_append_right _ _ (by rw[List.length_take];omega)];rw[List.length_take,show sa+j-min (sa+j) arr.toList.length=0 by omega];simp[List.append_assoc];congr 1;omega
theorem a5z(arr a:Array Keyed)(sa:Nat)(h:sa+a.size<=arr.size):(a6D arr a sa).toList=arr.toList.take sa++a.toList++arr.toList.drop (sa+a.size):=by
 have:=a3Q a.toList arr sa 0 (by rw[Array.length_toList];omega);rw[Nat.add_zero,Array.length_toList]at this;exact this
theorem b2F{M:Model}{A:Around}{E:Value->Shared->Prop}{s:Shared}{σ:Type}{st a:σ}{Q:PUnit->σ->Prop}(h:Q ⟨⟩ a):wpS M A E s (set a:StateT σ Sem PUnit) Q st:=by
 unfold wpS;rw[StateT.run_set];exact wpAny_pure ⟨rfl,h⟩
section
variable {prog:Program}{w:World}{A:Around}{E:Value->Shared->Prop}{s:Shared}{κ:SortKind}{D:Keyed->Prop}{O:KeyOrd}{kf:Keyed->O.α}{st:SortSt}
structure Runs2(kf:Keyed->O.α)(D:Keyed->Prop)(arr:Array Keyed)(P LA LB R:List Keyed):Prop where
 eq:arr.toList=P++LA++LB++R
 d:∀x∈arr.toList,D x
 sa:LA.Pairwise (leK kf)
 sb:LB.Pairwise (leK kf)
 na:0<LA.length
 nb:0<LB.length
variable {arr:Array Keyed}{P LA LB R:List Keyed}
theorem Runs2.atA(h:Runs2 kf D arr P LA LB R){i:Nat}(hi:i<LA.length):arr[P.length+i]?=LA[i]?:=by
 rw[<-Array.getElem?_toList,h.eq,List.append_assoc,List.append_assoc,List.getElem?_append_right (by omega),List.getElem?_append_left (by omega)];congr 1;omega
theorem Runs2.atB(h:Runs2 kf D arr P LA LB R){i:Nat}(hi:i<LB.length):arr[P.length+LA.length+i]?=LB[i]?:=by
 rw[<-Array.getElem?_toList,h.eq,List.append_assoc,List.getElem?_append_right (by rw[List.length_append];omega),List.getElem?_append_left (by rw[List.length_append];omega)];congr 1;rw[List.length_append];omega
theorem Runs2.dA(h:Runs2 kf D arr P LA LB R):∀x∈LA,D x:=λx a=>h.d x (by rw[h.eq];simp[a])
theorem Runs2.dB(h:Runs2 kf D arr P LA LB R):∀x∈LB,D x:=λx a=>h.d x (by rw[h.eq];simp[a])
theorem Runs2.size(h:Runs2 kf D arr P LA LB R):arr.size=P.length+LA.length+LB.length+R.length:=by
 rw[<-Array.length_toList,h.eq];simp[Nat.add_assoc]
theorem Runs2.extA(h:Runs2 kf D arr P LA LB R)(k:Nat):(arr.extract (P.length+k) (P.length+LA.length)).toList=LA.drop k:=by
 rw[a1d,h.eq,List.append_assoc (P++LA),List.take_append_of_le_length (by simp)];rw[List.take_of_length_le (by simp),List.drop_append,List.drop_eq_nil_of_le (by omega),List.nil_append];congr 1;omega
theorem Runs2.extB(h:Runs2 kf D arr P LA LB R){k:Nat}(a:k<=LB.length):(arr.extract (P.length+LA.length) (P.length+LA.length+k)).toList=LB.take k:=by
 rw[a2W,h.eq,List.append_assoc,List.drop_append_of_le_length (by simp),List.drop_eq_nil_of_le (by simp),List.nil_append,List.take_append_of_le_length a]
theorem a5f{i pw a7:Nat}{Q:Bool->SortSt->Prop}(G:Cmp prog w A s κ D (ltK kf))(hk:kindOf st=κ)(h:Runs2 kf D (arrOf st) P LA LB R)(hp:(pendingOf st)[i]?=some (P.length,LA.length,pw))(a9:(pendingOf st)[i+1]?=some (P.length+LA.length,LB.length,a7))(hf:failedOf st=none)
  (q:∀(st':SortSt) (M:List Keyed),kindOf st'=κ->failedOf st'=none->pendingOf st'=((pendingOf st).setIfInBounds i (P.length,LA.length+LB.length,pw)).eraseIdxIfInBounds (i+1)->a1g kf LA LB M->(arrOf st').toList=P++M++R->Q true st'):wpS (model prog w) A E s (mergeAt' i) Q st:=by
 rw[a5S];refine wpS_bind (wpS_get ?_);rw[hp,a9];dsimp only;refine wpS_bind (b2F ?_);unfold mgA;have hsz:=heq_of_eq h.size;have a1:=h.na;have I:=h.nb;generalize l:SortSt.mk' (kindOf st) (arrOf st) (((pendingOf st).setIfInBounds i (P.length,LA.length+LB.length,pw)).eraseIdxIfInBounds (i+1)) (gallopOf st) (failedOf st)=d;have k2:kindOf d=κ:=by rw[<-l];exact hk
 have a2:arrOf d=arrOf st:=by rw[<-l]
 have p2:pendingOf d=((pendingOf st).setIfInBounds i (P.length,LA.length+LB.length,pw)).eraseIdxIfInBounds (i+1):=by rw[<-l]
 have f2:failedOf d=none:=by rw[<-l];exact hf
 have t:LA++LB=LA++LB->(∀x∈LA,∀y∈LB,leK kf x y)->Q true d:=λ_ a8=>by
  refine q d (LA++LB) k2 f2 p2 ⟨.refl _,List.pairwise_append.mpr ⟨h.sa,h.sb,a8⟩⟩ ?_;rw[a2,h.eq];simp[List.append_assoc]
 refine wpS_bind (B3 (by have:=eq_of_heq hsz;omega) λy e1 _=>?_);have ey:LB[0]?=some y:=by rw[<-h.atB I];exact e1
 have a0:∀z∈LB,leK kf y z:=T7 h.sb ey (KeyOrd.kle_refl _);have W:∀i,i<LA.length->(arrOf st)[P.length+i]?=some (LA.getD i (Value.none,Value.none))/\LA[i]?=some (LA.getD i (Value.none,Value.none)):=λi hi=>by
  have:LA[i]?=some (LA.getD i (Value.none,Value.none)):=by rw[List.getD_eq_getElem?_getD,List.getElem?_eq_getElem hi];rfl
  exact⟨by rw[h.atA hi];exact this,this⟩
 have V:∀i,i<LB.length->(arrOf st)[P.length+LA.length+i]?=some (LB.getD i (Value.none,Value.none))/\LB[i]?=some (LB.getD i (Value.none,Value.none)):=λi hi=>by
  have:LB[i]?=some (LB.getD i (Value.none,Value.none)):=by rw[List.getD_eq_getElem?_getD,List.getElem?_eq_getElem hi];rfl
  exact⟨by rw[h.atB hi];exact this,this⟩
 have o:∀{u v:Keyed},(!(ltK kf u v))=true->leK kf v u:=λ{u v} z=>by
  unfold leK KeyOrd.kle;unfold ltK at z;simpa using z
 refine wpS_bind (J3 G k2 (h.dB _ (List.mem_of_getElem? ey)) (λi=>!(ltK kf y (LA.getD i (Value.none,Value.none)))) (λi hi=>⟨_,(W i hi).1,h.dA _ (List.mem_of_getElem? (W i hi).2),rfl⟩) (λi j S c hb=>?_) a1 λk q1 q2 q3=>?_)
 .have:=KeyOrd.kle_trans (X8 h.sa S (W i (by omega)).2 (W j c).2) (o hb);unfold KeyOrd.kle at this;unfold ltK;rw[this];rfl
 .dsimp only;have a3:∀x∈LA.take k,leK kf x y:=λx Z=>by
   obtain⟨j,c,e⟩:=List.mem_iff_getElem.mp Z;rw[List.length_take]at c;have m:=Nat.lt_of_lt_of_le c (Nat.min_le_right _ _);have:=o (q2 j (Nat.lt_of_lt_of_le c (Nat.min_le_left _ _)));have a:=(W j m).2;rw[List.getElem_take]at e;rw[List.getElem?_eq_getElem m,e]at a;injection a with a
   rw[a];exact this
  split
  .rename_i e;have e:=eq_of_beq e;refine wpS_pure (t rfl λx Z z f=>KeyOrd.kle_trans (a3 x ?_) (a0 z f));rw[List.take_of_length_le (by omega)];exact Z
  .rename_i e;replace e:k<LA.length:=Nat.lt_of_sub_ne_zero λz=>e (beq_iff_eq.mpr z);clear q1;have a4:∀x∈LA.drop k,ltK kf y x=true:=λx Z=>by
    obtain⟨j,c,e⟩:=List.mem_iff_getElem.mp Z;rw[List.length_drop]at c;rw[List.getElem_drop]at e;clear hsz I;have O:k+j<LA.length:=by omega
    have:=q3 (k+j) (Nat.le_add_right _ _) O;have a:=(W (k+j) O).2;rw[List.getElem?_eq_getElem O,e]at a;injection a with a
    rw[a];simpa using this
   unfold mgB;refine wpS_bind (B3 (by have:=eq_of_heq hsz;omega) λx f1 _=>?_);rw[show P.length+k+(LA.length-k)-1=P.length+(LA.length-1) by omega]at f1;have ex:LA[LA.length-1]?=some x:=by rw[<-h.atA (by omega)];exact f1
   have J:∀z∈LA,leK kf z x:=λz f=>by
    have:=S7 h.sa ex (KeyOrd.kle_refl _) z;rw[show LA.length-1+1=LA.length by omega,List.take_length]at this;exact this f
   refine wpS_bind (J3 G k2 (h.dA _ (List.mem_of_getElem? ex)) (λi=>ltK kf (LB.getD i (Value.none,Value.none)) x) (λi hi=>⟨_,(V i hi).1,h.dB _ (List.mem_of_getElem? (V i hi).2),rfl⟩) (λi j S c hb=>?_) (by omega) λn r1 r2 r3=>?_)
   .exact KeyOrd.klt_of_kle_of_klt (X8 h.sb S (V i (by omega)).2 (V j c).2) hb
   .dsimp only;have K:∀z∈LB.drop n,leK kf x z:=λz f=>by
     obtain⟨j,c,e⟩:=List.mem_iff_getElem.mp f;rw[List.length_drop]at c;rw[List.getElem_drop]at e;have N:n+j<LB.length:=by clear hsz a1 I;omega
     have:=r3 (n+j) (Nat.le_add_right _ _) N;have a:=(V (n+j) N).2;rw[List.getElem?_eq_getElem N,e]at a;injection a with a
     rw[a];exact this
    have b0:∀z∈LB.take n,ltK kf z x=true:=λz f=>by
     obtain⟨j,c,e⟩:=List.mem_iff_getElem.mp f;rw[List.length_take]at c;rw[List.getElem_take]at e;have m:=Nat.lt_of_lt_of_le c (Nat.min_le_right _ _);have:=r2 j (Nat.lt_of_lt_of_le c (Nat.min_le_left _ _));have a:=(V j m).2;rw[List.getElem?_eq_getElem m,e]at a;injection a with a
     rw[a];exact this
    split
    .rename_i e;have e:=eq_of_beq e;refine wpS_pure (t rfl λu p z f=>KeyOrd.kle_trans (J u p) (K z ?_));rw[e,List.drop_zero];exact f
    .rename_i en;replace en:0<n:=Nat.pos_of_ne_zero λz=>en (beq_iff_eq.mpr z);have U:=h.extA k;have L:=h.extB r1;generalize b2:(arrOf st).extract (P.length+k) (P.length+LA.length)=Xa at U;generalize b1:(arrOf st).extract (P.length+LA.length) (P.length+LA.length+n)=Ya at L;have sX:=heq_of_eq (show Xa.size=LA.length-k by rw[<-Array.length_toList,U,List.length_drop]);have sY:=heq_of_eq (show Ya.size=n by rw[<-Array.length_toList,L,List.length_take,Nat.min_eq_left r1]);have T:Two D kf Xa Ya:=by
      refine⟨λi z B=>?_,λi z B=>?_,by rw[U];exact h.sa.drop,by rw[L];exact h.sb.take,λz f u eu=>?_⟩
      .refine h.dA z (List.mem_of_mem_drop (i:=k) ?_);rw[<-U];rw[<-Array.getElem?_toList]at B;exact List.mem_of_getElem? B
      .refine h.dB z (List.mem_of_mem_take (i:=n) ?_);rw[<-L];rw[<-Array.getElem?_toList]at B;exact List.mem_of_getElem? B
      .rw[L]at f;rw[<-Array.getElem?_toList,U,List.getElem?_drop,eq_of_heq sX,show k+(LA.length-k-1)=LA.length-1 by omega,ex]at eu;cases eu;exact b0 z f
     have F:a4c kf Xa Ya:=λz B u p=>by
      rw[L,List.getElem?_take_of_lt en,ey]at B;cases B;rw[U]at p;exact a4 u p
     have fin:∀(r:Array Keyed) (b:SortSt),C4 kf Xa Ya r->Good d b->wpS (model prog w) A E s (mgC (P.length+k) r) Q b:=λr b X g=>by
      unfold mgC;obtain⟨C,a5⟩:=X;rw[U,L]at C;have Y:=heq_of_eq (show r.size=LA.length-k+n by
       have:=C.length_eq;rw[List.length_append,List.length_drop,List.length_take,Array.length_toList,Nat.min_eq_left r1]at this;exact this)
      refine wpS_bind (wpS_modify (wpS_bind (wpS_get (wpS_pure ?_))));show Q (failedOf b).isNone _;rw[g.2.2.2,f2];have H:∀z∈r.toList,z∈LA.drop k∨z∈LB.take n:=λz f=>List.mem_append.mp (C.mem_iff.mp f);refine q _ (LA.take k++r.toList++LB.drop n) (g.1.trans k2) rfl (g.2.2.1.trans p2) ⟨?_,?_⟩ ?_
      .refine((List.Perm.append_left _ C).append_right _).trans ?_;rw[<-List.append_assoc (LA.take k),List.take_append_drop,List.append_assoc,List.take_append_drop]
      .have sAk:∀u∈LA.take k,∀v∈LA.drop k,leK kf u v:=by
        have:=h.sa;rw[<-List.take_append_drop k LA,List.pairwise_append]at this;exact this.2.2
       have a6:∀u∈LB.take n,∀v∈LB.drop n,leK kf u v:=by
        have:=h.sb;rw[<-List.take_append_drop n LB,List.pairwise_append]at this;exact this.2.2
       rw[List.pairwise_append,List.pairwise_append];refine⟨⟨h.sa.take,a5,λu p v hv=>?_⟩,h.sb.drop,λu p v hv=>?_⟩
       .rcases H v hv with z|z
        .exact sAk u p v z
        .exact KeyOrd.kle_trans (a3 u p) (a0 v (List.mem_of_mem_take z))
       .rcases List.mem_append.mp p with z|z
        .exact KeyOrd.kle_trans (J u (List.mem_of_mem_take z)) (K v hv)
        .rcases H u z with z|z
         .exact KeyOrd.kle_trans (J u (List.mem_of_mem_drop z)) (K v hv)
         .exact a6 u z v hv
      .show(a6D (arrOf b) r (P.length+k)).toList=_;rw[g.2.1,a2,a5z _ _ _ (by rw[eq_of_heq Y,eq_of_heq hsz];clear hsz;omega),h.eq,eq_of_heq Y];have e1:(P++LA++LB++R).take (P.length+k)=P++LA.take k:=by
        rw[List.append_assoc,List.append_assoc,List.take_append,List.take_of_length_le (by omega),show P.length+k-P.length=k by omega,List.take_append_of_le_length (by omega)]
       have a:(P++LA++LB++R).drop (P.length+k+(LA.length-k+n))=LB.drop n++R:=by
        rw[List.append_assoc (P++LA),List.drop_append,List.drop_eq_nil_of_le (by rw[List.length_append];omega),List.nil_append,List.length_append,show P.length+k+(LA.length-k+n)-(P.length+LA.length)=n by omega,List.drop_append_of_le_length r1]
       rw[e1,a];simp[List.append_assoc]
     split
     .exact wpS_bind (a5d T G k2 (by rw[eq_of_heq sX];omega) (by rw[eq_of_heq sY];exact en) (λz B u p=>KeyOrd.kle_of_klt (F z B u p)) λr b X g=>fin r b X g)
     .exact wpS_bind (a5e T F G k2 (by rw[eq_of_heq sX];omega) (by rw[eq_of_heq sY];exact en) λr b X g=>fin r b X g)
end
section
variable {prog:Program}{w:World}{A:Around}{E:Value->Shared->Prop}{s:Shared}{κ:SortKind}{D:Keyed->Prop}{O:KeyOrd}{kf:Keyed->O.α}{st:SortSt}
noncomputable def kx(kf:Keyed->O.α)(arr:Array Keyed)(i:Nat):O.α:=kf (arr.getD i (Value.none,Value.none))
def SoO(kf:Keyed->O.α)(arr:Array Keyed)(lo m:Nat):Prop:=∀i j,i<=j->j<m->O.kle (kx kf arr (lo+i)) (kx kf arr (lo+j))
def NiO(kf:Keyed->O.α)(arr:Array Keyed)(lo m:Nat):Prop:=∀i j,i<=j->j<m->O.kle (kx kf arr (lo+j)) (kx kf arr (lo+i))
def Kept(lo:Nat)(st st':SortSt):Prop:=kindOf st'=kindOf st/\pendingOf st'=pendingOf st/\failedOf st'=failedOf st/\(arrOf st').Perm (arrOf st)/\∀i,i<lo->(arrOf st')[i]?=(arrOf st)[i]?
theorem Kept.refl{lo:Nat}:Kept lo st st:=⟨rfl,rfl,rfl,.refl _,λ_ _=>rfl⟩
theorem Kept.trans{lo:Nat}{st' a:SortSt}(h:Kept lo st st')(h2:Kept lo st' a):Kept lo st a:=⟨h2.1.trans h.1,h2.2.1.trans h.2.1,h2.2.2.1.trans h.2.2.1,h2.2.2.2.1.trans h.2.2.2.1,λi hi=>(h2.2.2.2.2 i hi).trans (h.2.2.2.2 i hi)⟩
def AllD(D:Keyed->Prop)(arr:Array Keyed):Prop:=∀x∈arr.toList,D x
theorem AllD.perm{a b:Array Keyed}(h:AllD D a)(p:b.Perm a):AllD D b:=λx c=>h x ((Array.perm_iff_toList_perm.mp p).mem_iff.mp c)
theorem V7{a b:Array Keyed}{i j:Nat}(h:a[i]?=b[j]?):kx kf a i=kx kf b j:=by
 unfold kx;rw[Array.getD_eq_getD_getElem?,Array.getD_eq_getD_getElem?,h]
theorem P8{i j:Nat}{Q:Option Bool->SortSt->Prop}(a:Cmp prog w A s κ D (ltK kf))(f:kindOf st=κ)(b:AllD D (arrOf st))(hi:i<(arrOf st).size)(d:j<(arrOf st).size)(h:Q (some (O.blt (kx kf (arrOf st) i) (kx kf (arrOf st) j))) st):wpS (model prog w) A E s (ltAt' i j) Q st:=by
 rw[ltAt'_eq];refine wpS_bind (wpS_get ?_);refine wpS_bind (B3 hi λx c f1=>wpS_bind (B3 d λy e f2=>?_));rw[gdK _ hi]at c;rw[gdK _ d]at e;cases c;cases e;exact a0k a f (b _ (List.mem_of_getElem? f1)) (b _ (List.mem_of_getElem? f2)) h
theorem b0d{src a:Nat}{Q:Unit->SortSt->Prop}(h:Q () (setArr st (bubble (arrOf st) src (src-a)))):wpS (model prog w) A E s (moveDown' src a) Q st:=by
 rw[moveDown'_eq];exact wpS_modify h
theorem a0V{arr:Array Keyed}{src a:Nat}(hs:src<arr.size)(hd:a<=src)(i:Nat):kx kf (bubble arr src (src-a)) i=if i=a then kx kf arr src else if a<i/\i<=src then kx kf arr (i-1)else kx kf arr i:=by
 have e:=getElem?_bubble hs (src-a) (by omega) i;rw[show src-(src-a)=a by omega]at e;split
 .rename_i c;rw[if_pos c]at e;exact V7 e
 .rename_i c;rw[if_neg c]at e;split
  .rename_i c2;rw[if_pos c2]at e;exact V7 e
  .rename_i c2;rw[if_neg c2]at e;exact V7 e
theorem a2s{l j k:Nat}(h:l<j)(h2:j<=k):j-1<k:=by omega
section
variable {arr:Array Keyed}{lo k l i:Nat}(hs:lo+k<arr.size) (hd:l<=k)
include hs hd
theorem b2u(h:i<l):kx kf (bubble arr (lo+k) (lo+k-(lo+l))) (lo+i)=kx kf arr (lo+i):=by
 rw[a0V hs (by omega),if_neg (by omega),if_neg (by omega)]
theorem a7t:kx kf (bubble arr (lo+k) (lo+k-(lo+l))) (lo+l)=kx kf arr (lo+k):=by
 rw[a0V hs (by omega),if_pos rfl]
theorem a4X(h:l<i)(h2:i<=k):kx kf (bubble arr (lo+k) (lo+k-(lo+l))) (lo+i)=kx kf arr (lo+(i-1)):=by
 rw[a0V hs (by omega),if_neg (by omega),if_pos (by omega),Nat.add_sub_assoc (by omega)]
end
theorem b0e{lo n ok:Nat}{Q:Bool->SortSt->Prop}(C:Cmp prog w A s κ D (ltK kf))(H:kindOf st=κ)(M:AllD D (arrOf st))(K:lo+n<=(arrOf st).size)(hok:ok<=n)(hs:SoO kf (arrOf st) lo ok)
  (h:∀st',Kept lo st st'->SoO kf (arrOf st') lo n->Q true st'):wpS (model prog w) A E s (binarySort' lo n ok) Q st:=by
 rw[binarySort'_eq];refine wpS_bind (wpS_mono (wpS_forRange (I:=λk c st'=>c=(none,())/\Kept lo st st'/\SoO kf (arrOf st') lo (min k n))
  (Q:=λc st'=>c=(none,())/\Kept lo st st'/\SoO kf (arrOf st') lo n) ?step ?fin ?init) ?post)
 case post =>
  rintro c st' ⟨rfl,f,b⟩;exact wpS_pure (h st' f b)
 case init =>
  refine⟨rfl,Kept.refl,λi j g t=>?_⟩;by_cases h1:ok=0
  .have:i=j:=by omega
   subst this;exact KeyOrd.kle_refl _
  .exact hs i j g (by omega)
 case fin =>
  rintro c st' ⟨hc,f,b⟩;refine⟨hc,f,?_⟩;rwa[show min (max (max ok 1) n) n=n by omega]at b
 case step =>
  rintro k c st' G F ⟨rfl,f,b⟩;rw[show min k n=k by omega]at b;have q:lo+k<(arrOf st').size:=by have:=f.2.2.2.1.size_eq;omega
  have z:=M.perm f.2.2.2.1;have u:min (k+1) n=k+1:=by omega
  clear K hok G F;refine wpS_bind (wpS_mono (wpS_forRange (I:=λx c a=>a=st'/\∃l r,c=(none,l,r)/\l<=r/\r<=k/\r-l<=k-x /\
    (∀i,i<l->O.kle (kx kf (arrOf st') (lo+i)) (kx kf (arrOf st') (lo+k)))/\(∀i,r<=i->i<k->O.kle (kx kf (arrOf st') (lo+k)) (kx kf (arrOf st') (lo+i))))
   (Q:=λc a=>a=st'/\∃l r,c=(none,l,r)/\l<=k /\
    (∀i,i<l->O.kle (kx kf (arrOf st') (lo+i)) (kx kf (arrOf st') (lo+k)))/\(∀i,l<=i->i<k->O.kle (kx kf (arrOf st') (lo+k)) (kx kf (arrOf st') (lo+i)))) ?istep ?ifin ?iinit) ?ipost)
  case iinit=>exact⟨rfl,0,k,rfl,by omega,by omega,by omega,λi hi=>by omega,λi h1 h2=>by omega⟩
  case ifin =>
   rintro c a ⟨rfl,l,r,rfl,B,v,J,o,m⟩;have:l=r:=by omega
   subst this;exact⟨rfl,l,l,rfl,v,o,m⟩
  case istep =>
   rintro x c a _ L ⟨rfl,l,r,rfl,B,v,J,o,m⟩;dsimp only;by_cases y:l ≥ r
   .rw[if_pos y];have:l=r:=by omega
    subst this;exact wpS_pure ⟨rfl,l,l,rfl,v,o,m⟩
   .rw[if_neg y];refine wpS_bind (P8 C (f.1.trans H) z (by omega) (by omega) ?_);dsimp only;cases p:O.blt (kx kf (arrOf a) (lo+k)) (kx kf (arrOf a) (lo+(l+r) / 2))with
    |true =>
     rw[if_pos rfl];refine wpS_pure ⟨rfl,l,(l+r) / 2,rfl,by omega,by omega,by omega,o,λi h1 h2=>?_⟩;exact KeyOrd.kle_trans (KeyOrd.kle_of_klt p) (b _ _ h1 h2)
    |false =>
     rw[if_neg (by simp)];refine wpS_pure ⟨rfl,(l+r) / 2+1,r,rfl,by omega,by omega,by omega,λi h1=>?_,m⟩;exact KeyOrd.kle_trans (b i ((l+r) / 2) (by omega) (by omega)) p
  case ipost =>
   rintro c a ⟨rfl,l,r,rfl,e,o,m⟩;refine wpS_bind (b0d (wpS_pure ⟨rfl,f.trans ⟨rfl,rfl,rfl,bubble_perm _ _ _,λi hi=>?_⟩,?_⟩))
   .show(bubble (arrOf a) (lo+k) (lo+k-(lo+l)))[i]?=_;rw[getElem?_bubble q _ (by omega),if_neg (by omega),if_neg (by omega)]
   rw[u];clear u;intro i j g t;replace t:j<=k:=Nat.le_of_lt_succ t;show O.kle (kx kf (bubble (arrOf a) (lo+k) (lo+k-(lo+l))) (lo+i)) (kx kf (bubble (arrOf a) (lo+k) (lo+k-(lo+l))) (lo+j));rcases Nat.lt_trichotomy i l with c|rfl|c
   .rw[b2u q e c];rcases Nat.lt_trichotomy j l with d|rfl|d
    .rw[b2u q e d];exact b i j g (Nat.lt_of_lt_of_le d e)
    .rw[a7t q e];exact o i c
    .rw[a4X q e d t];exact b i (j-1) (Nat.le_sub_one_of_lt (Nat.lt_trans c d)) (a2s d t)
   .rw[a7t q e];rcases Nat.lt_or_eq_of_le g with d|rfl
    .rw[a4X q e d t];exact m (j-1) (Nat.le_sub_one_of_lt d) (a2s d t)
    .rw[a7t q e];exact KeyOrd.kle_refl _
   .have d:=Nat.lt_of_lt_of_le c g;rw[a4X q e c (Nat.le_trans g t),a4X q e d t];exact b (i-1) (j-1) (Nat.sub_le_sub_right g 1) (a2s d t)
end
noncomputable def b2z(lo a nrem:Nat):StateT SortSt Sem AscSt:=forIn [a:nrem] ((none,a):AscSt) λ_ c=>ltAt' (lo+c.2) (lo+c.2-1)>>=λr=>match r with
 |some sm=>(if sm=true then pure (.done (none,c.2))else pure (.yield (none,c.2+1)))
 |_=>pure (.done (some none,c.2))
noncomputable def a0b(lo n nrem:Nat):StateT SortSt Sem (Option Nat):=reverseSlice' lo (lo+n)>>=λ_=>b2z lo n nrem>>=λc=>match c.1 with
 |some r=>pure r
 |none=>pure (some c.2)
noncomputable def a8t(lo n nrem:Nat):StateT SortSt Sem DescSt:=forIn [n:nrem] ((none,n,0):DescSt) λ_ c=>ltAt' (lo+c.2.1) (lo+c.2.1-1)>>=λr=>match r with
 |some sm=>(if sm=true then(if c.2.2 > 0 then reverseSlice' (lo+c.2.1-(c.2.2+1)) (lo+c.2.1)>>=λ_=>pure (.yield (none,c.2.1+1,0))else pure (.yield (none,c.2.1+1,0)))
  else ltAt' (lo+c.2.1-1) (lo+c.2.1)>>=λr=>match r with
   |some lg=>(if lg=true then pure (.done (none,c.2.1,c.2.2))else pure (.yield (none,c.2.1+1,c.2.2+1)))
   |_=>pure (.done (some none,c.2.1,c.2.2)))
 |_=>pure (.done (some none,c.2.1,c.2.2))
noncomputable def dpO(lo n nrem:Nat):StateT SortSt Sem (Option Nat):=liftM (rule "list.sort.descending-run")>>=λ_=>a8t lo (n+1) nrem>>=λc=>match c.1 with
 |some r=>pure r
 |none=>(if c.2.2 > 0 then reverseSlice' (lo+c.2.1-(c.2.2+1)) (lo+c.2.1)>>=λ_=>a0b lo c.2.1 nrem else a0b lo c.2.1 nrem)
theorem a9H(lo a:Nat):countRun' lo a=(b2z lo 1 a>>=λc=>match c.1 with
 |some r=>pure r
 |none=>(if (c.2==a)=true then pure (some c.2)else if c.2 > 1 then ltAt' lo (lo+c.2-1)>>=λr=>match r with
   |some rose=>(if rose=true then pure (some c.2)else reverseSlice' lo (lo+c.2)>>=λ_=>dpO lo c.2 a)
   |_=>pure none
  else dpO lo c.2 a)):=by
 have d:∀(n:Nat),(reverseSlice' lo (lo+n)>>=λ_=>b2z lo n a>>=λc=>match c.1 with|some r=>pure r|none=>pure (some c.2))=a0b lo n a:=λn=>rfl;rw[countRun'_eq];dsimp only;refine congr (congrArg _ ?_) (funext λc=>?_)
 .rfl
 rcases c with⟨_|q,n⟩
 .dsimp only;have dp:∀n:Nat,(liftM (rule "list.sort.descending-run")>>=λ_=>a8t lo (n+1) a>>=λc=>match c.1 with
    |some r=>pure r
    |none=>(if c.2.2 > 0 then reverseSlice' (lo+c.2.1-(c.2.2+1)) (lo+c.2.1)>>=λ_=>a0b lo c.2.1 a else a0b lo c.2.1 a))=dpO lo n a:=λn=>rfl
  have b:∀{β:Type}{m:StateT SortSt Sem β}{f g:β->StateT SortSt Sem (Option Nat)},(∀c,f c=g c)->(m>>=f)=(m>>=g):=λh=>congrArg _ (funext h);refine ite_congr rfl (λ_=>rfl) λ_=>ite_congr rfl (λ_=>?_) λ_=>?_
  .refine b λr=>?_;rcases r with _|r
   .rfl
   .dsimp only;refine ite_congr rfl (λ_=>rfl) λ_=>?_;refine b λ_=>?_;rw[<-dp];refine b λ_=>?_;refine congr (congrArg _ ?_) (funext λc=>?_)
    .rfl
    .rcases c with⟨_|q,n,z⟩
     .dsimp only;refine ite_congr rfl (λ_=>?_) λ_=>?_
      .refine b λ_=>?_;refine b λ_=>?_;refine congr (congrArg _ ?_) (funext λc=>?_)
       .rfl
       .rcases c with⟨_|q,n⟩<;>rfl
      .refine b λ_=>?_;refine congr (congrArg _ ?_) (funext λc=>?_)
       .rfl
       .rcases c with⟨_|q,n⟩<;>rfl
     .rfl
  .rw[<-dp];refine b λ_=>?_;refine congr (congrArg _ ?_) (funext λc=>?_)
   .rfl
   .rcases c with⟨_|q,n,z⟩
    .dsimp only;refine ite_congr rfl (λ_=>?_) λ_=>?_
     .refine b λ_=>?_;refine b λ_=>?_;refine congr (congrArg _ ?_) (funext λc=>?_)
      .rfl
      .rcases c with⟨_|q,n⟩<;>rfl
     .refine b λ_=>?_;refine congr (congrArg _ ?_) (funext λc=>?_)
      .rfl
      .rcases c with⟨_|q,n⟩<;>rfl
    .rfl
 .rfl
section
variable {prog:Program}{w:World}{A:Around}{E:Value->Shared->Prop}{s:Shared}{κ:SortKind}{D:Keyed->Prop}{O:KeyOrd}{kf:Keyed->O.α}{st:SortSt}
theorem a0U{arr:Array Keyed}{i j:Nat}(a:j<=arr.size)(k:Nat):kx kf (mirror arr i j ((j-i) / 2)) k=if i<=k/\k<j then kx kf arr (i+j-1-k)else kx kf arr k:=by
 have e:=getElem?_mirror_all (i:=i) a k;split
 .rename_i c;rw[if_pos c]at e;exact V7 e
 .rename_i c;rw[if_neg c]at e;exact V7 e
theorem M5{arr:Array Keyed}{i j:Nat}(b:j<=arr.size)(a:∀k,i<=k->k<j->kx kf arr k=kx kf arr (j-1))(k:Nat):kx kf (mirror arr i j ((j-i) / 2)) k=kx kf arr k:=by
 rw[a0U b];split
 .rw[a _ (by omega) (by omega),a k (by omega) (by omega)]
 .rfl
theorem Kept.rev{lo i j:Nat}(hi:lo<=i)(a:j<=(arrOf st).size):Kept lo st (setArr st (mirror (arrOf st) i j ((j-i) / 2))):=⟨rfl,rfl,rfl,mirror_perm _ _ _ _,λk b=>by
 show(mirror (arrOf st) i j ((j-i) / 2))[k]?=_;rw[getElem?_mirror_all a,if_neg (by omega)]⟩
theorem a5h{lo a b:Nat}{Q:AscSt->SortSt->Prop}(k:Cmp prog w A s κ D (ltK kf))(t:kindOf st=κ)(r:AllD D (arrOf st))(q:lo+b<=(arrOf st).size)(ha:1<=a)(f:a<=b)(hs:SoO kf (arrOf st) lo a)
  (h:∀n,a<=n->n<=b->SoO kf (arrOf st) lo n->(n=b∨O.klt (kx kf (arrOf st) (lo+n)) (kx kf (arrOf st) (lo+(n-1))))->Q (none,n) st):wpS (model prog w) A E s (b2z lo a b) Q st:=by
 unfold b2z;refine wpS_forRange (I:=λx c st'=>st'=st/\c=(none,x)/\SoO kf (arrOf st) lo x) ?step ?fin ⟨rfl,rfl,hs⟩
 case fin =>
  rintro c st' ⟨rfl,rfl,d⟩;rw[Nat.max_eq_right f]at d⊢;exact h b f (Nat.le_refl _) d (.inl rfl)
 case step =>
  rintro x c st' g l ⟨rfl,rfl,d⟩;dsimp only;replace ha:1<=x:=Nat.le_trans ha g;rw[show lo+x-1=lo+(x-1) by clear q f g l;omega];refine wpS_bind (P8 k t r (by omega) (by omega) ?_);clear q f;dsimp only;cases e:O.blt (kx kf (arrOf st') (lo+x)) (kx kf (arrOf st') (lo+(x-1)))with
  |true =>
   rw[if_pos rfl];exact wpS_pure (h x g (by omega) d (.inr e))
  |false =>
   rw[if_neg (by simp)];refine wpS_pure ⟨rfl,rfl,λi j o u=>?_⟩;by_cases p:j<x
   .exact d i j o p
   .have hj':j=x:=by omega
    subst hj';by_cases m:i=j
    .subst m;exact KeyOrd.kle_refl _
    .exact KeyOrd.kle_trans (d i (j-1) (by omega) (by omega)) e
theorem a1Y{lo n a:Nat}{Q:Option Nat->SortSt->Prop}(d:Cmp prog w A s κ D (ltK kf))(l:kindOf st=κ)(g:AllD D (arrOf st))(f:lo+a<=(arrOf st).size)(h1:1<=n)(b:n<=a)(hs:NiO kf (arrOf st) lo n)
  (h:∀m st',Kept lo st st'->1<=m->m<=a->SoO kf (arrOf st') lo m->Q (some m) st'):wpS (model prog w) A E s (a0b lo n a) Q st:=by
 unfold a0b;refine wpS_bind (wpS_reverse ?_);have c:Kept lo st (setArr st (mirror (arrOf st) lo (lo+n) ((lo+n-lo) / 2))):=Kept.rev (Nat.le_refl _) (by omega);refine wpS_bind (a5h d (c.1.trans l) (g.perm c.2.2.2.1) (by rw[c.2.2.2.1.size_eq];exact f) h1 b (λi j p r=>?_) λm q k o _=>wpS_pure (h m _ c (by omega) k o));show O.kle (kx kf (mirror (arrOf st) lo (lo+n) ((lo+n-lo) / 2)) (lo+i)) (kx kf (mirror (arrOf st) lo (lo+n) ((lo+n-lo) / 2)) (lo+j));have e:lo+n<=(arrOf st).size:=by omega
 rw[a0U e,a0U e];clear f h1 b e;rw[if_pos (by omega),if_pos (by omega),show lo+(lo+n)-1-(lo+i)=lo+(n-1-i) by omega,show lo+(lo+n)-1-(lo+j)=lo+(n-1-j) by omega];exact hs _ _ (by omega) (by omega)
theorem a8A{lo n d:Nat}{Q:DescSt->SortSt->Prop}(J:Cmp prog w A s κ D (ltK kf))(H:kindOf st=κ)(N:AllD D (arrOf st))(K:lo+d<=(arrOf st).size)(h1:1<=n)(u:n<=d)(hs:NiO kf (arrOf st) lo n)
  (h:∀m a st',Kept lo st st'->n<=m->m<=d->NiO kf (arrOf st') lo m->a+1<=m->(∀i,lo+m-(a+1)<=i->i<lo+m->kx kf (arrOf st') i=kx kf (arrOf st') (lo+m-1))->Q (none,m,a) st'):wpS (model prog w) A E s (a8t lo n d) Q st:=by
 unfold a8t;refine wpS_forRange (I:=λx c st'=>∃a,c=(none,x,a)/\Kept lo st st'/\NiO kf (arrOf st') lo x/\a+1<=x /\
   (∀i,lo+x-(a+1)<=i->i<lo+x->kx kf (arrOf st') i=kx kf (arrOf st') (lo+x-1))) ?step ?fin ⟨0,rfl,Kept.refl,hs,by omega,λi h1 h2=>by congr 1;omega⟩
 case fin =>
  rintro c st' ⟨a,rfl,b,f,F,C⟩;rw[Nat.max_eq_right u]at f F C⊢;exact h d a st' b u (Nat.le_refl _) f F C
 case step =>
  rintro x c st' o e ⟨a,rfl,b,f,F,C⟩;dsimp only;have t:lo+x<(arrOf st').size:=by rw[b.2.2.2.1.size_eq];exact Nat.lt_of_lt_of_le (Nat.add_lt_add_left e lo) K
  have G:=N.perm b.2.2.2.1;replace e:x<=d:=Nat.le_of_lt e;have ex:HEq (lo+x-1) (lo+(x-1)):=heq_of_eq (by clear K h1 u o e t;omega);have l:lo+x-1<(arrOf st').size:=Nat.lt_of_le_of_lt (Nat.sub_le _ _) t;clear K h1 u;refine wpS_bind (P8 J (b.1.trans H) G t l ?_);dsimp only;rw[eq_of_heq ex]at C l⊢;cases p:O.blt (kx kf (arrOf st') (lo+x)) (kx kf (arrOf st') (lo+(x-1)))with
  |true =>
   rw[if_pos rfl];have q:∀xs:Array Keyed,(∀k,kx kf xs k=kx kf (arrOf st') k)->NiO kf xs lo (x+1):=by
    intro xs H i j z M;rw[H,H];by_cases y:j<x
    .exact f i j z y
    .have hj':j=x:=by omega
     subst hj';by_cases B:i=j
     .subst B;exact KeyOrd.kle_refl _
     .exact KeyOrd.kle_trans (KeyOrd.kle_of_klt p) (f i (j-1) (by omega) (by omega))
   by_cases g:a > 0
   .rw[if_pos g];refine wpS_bind (wpS_reverse (wpS_pure ⟨0,rfl,b.trans (Kept.rev (by clear t l ex o e g;omega) (Nat.le_of_lt t)),q _ (M5 (Nat.le_of_lt t) (λk R P=>by rw[eq_of_heq ex];exact C k R P)),Nat.succ_pos _,λi h1 h2=>by clear t l ex o e g F;congr 1;omega⟩))
   .rw[if_neg g];exact wpS_pure ⟨0,rfl,b,q _ (λ_=>rfl),Nat.succ_pos _,λi h1 h2=>by clear t l ex o e g F;congr 1;omega⟩
  |false =>
   rw[if_neg (by simp)];refine wpS_bind (P8 J (b.1.trans H) G l t ?_);dsimp only;clear t l;cases r:O.blt (kx kf (arrOf st') (lo+(x-1))) (kx kf (arrOf st') (lo+x))with
   |true =>
    rw[if_pos rfl];exact wpS_pure (h x a st' b o e f F (by rw[eq_of_heq ex];exact C))
   |false =>
    rw[if_neg (by simp)];have v:kx kf (arrOf st') (lo+x)=kx kf (arrOf st') (lo+(x-1)):=KeyOrd.kle_antisymm r p;clear o e;refine wpS_pure ⟨a+1,rfl,b,λi j z M=>?_,by omega,λi h1 h2=>?_⟩
    .by_cases y:j<x
     .exact f i j z y
     .have hj':j=x:=by omega
      subst hj';by_cases B:i=j
      .subst B;exact KeyOrd.kle_refl _
      .rw[v];exact f i (j-1) (by omega) (by omega)
    .rw[show lo+(x+1)-1=lo+x by omega];by_cases L:i=lo+x
     .subst L;rfl
     .rw[v];exact C i (by omega) (by omega)
theorem a7D{lo n a:Nat}{Q:Option Nat->SortSt->Prop}(f:Cmp prog w A s κ D (ltK kf))(u:kindOf st=κ)(x:AllD D (arrOf st))(q:lo+a<=(arrOf st).size)(r:n+1<=a)(hs:NiO kf (arrOf st) lo (n+1))
  (h:∀m st',Kept lo st st'->1<=m->m<=a->SoO kf (arrOf st') lo m->Q (some m) st'):wpS (model prog w) A E s (dpO lo n a) Q st:=by
 unfold dpO;refine wpS_bind (P7 ?_);refine wpS_bind (a8A f u x q (by omega) r hs λm k st' b C e p F y=>?_);dsimp only;have t:=heq_of_eq (b.2.2.2.1.size_eq:(arrOf st').size=(arrOf st).size);have g:lo+m<=(arrOf st').size:=by rw[eq_of_heq t];exact Nat.le_trans (Nat.add_le_add_left e lo) q
 have o:=x.perm b.2.2.2.1;by_cases d:k > 0
 .rw[if_pos d];have c:Kept lo st' (setArr st' (mirror (arrOf st') (lo+m-(k+1)) (lo+m) ((lo+m-(lo+m-(k+1))) / 2))):=Kept.rev (by omega) g;refine wpS_bind (wpS_reverse (a1Y f (c.1.trans (b.1.trans u)) (o.perm c.2.2.2.1) (by rw[c.2.2.2.1.size_eq,eq_of_heq t];exact q) (by omega) e (λi j v z=>?_) λB l k2=>h B l (b.trans (c.trans k2))));show O.kle (kx kf (mirror (arrOf st') _ _ _) _) (kx kf (mirror (arrOf st') _ _ _) _);rw[M5 g y,M5 g y];exact p i j v z
 .rw[if_neg d];exact a1Y f (b.1.trans u) o (by rw[eq_of_heq t];exact q) (by omega) e p λB l k2=>h B l (b.trans k2)
theorem a6p{lo b:Nat}{Q:Option Nat->SortSt->Prop}(g:Cmp prog w A s κ D (ltK kf))(v:kindOf st=κ)(F:AllD D (arrOf st))(p:lo+b<=(arrOf st).size)(h1:1<=b)
  (h:∀m st',Kept lo st st'->1<=m->m<=b->SoO kf (arrOf st') lo m->Q (some m) st'):wpS (model prog w) A E s (countRun' lo b) Q st:=by
 rw[a9H];refine wpS_bind (a5h g v F p (Nat.le_refl 1) h1 (λi j z J=>by have:i=j:=(by omega);subst this;exact KeyOrd.kle_refl _) λn l c f B=>?_);dsimp only;by_cases a:n=b
 .rw[if_pos (by simpa using a)];exact wpS_pure (h n st Kept.refl l c f)
 .rw[if_neg (by simpa using a)];have x:O.klt (kx kf (arrOf st) (lo+n)) (kx kf (arrOf st) (lo+(n-1))):=B.resolve_left a;replace a:n+1<=b:=by omega
  clear B c h1;replace c:=Nat.le_of_succ_le a;have o:lo+n<(arrOf st).size:=Nat.lt_of_lt_of_le (Nat.add_lt_add_left a lo) p;by_cases u:n > 1
  .rw[if_pos u];refine wpS_bind (P8 g v F (by omega) (by omega) ?_);dsimp only;have ex:lo+n-1=lo+(n-1):=by clear p a c o;omega
   rw[ex];cases r:O.blt (kx kf (arrOf st) lo) (kx kf (arrOf st) (lo+(n-1)))with
   |true =>
    rw[if_pos rfl];exact wpS_pure (h n st Kept.refl l c f)
   |false =>
    rw[if_neg (by simp)];have q:=p;clear p;have d:∀k,k<n->kx kf (arrOf st) (lo+k)=kx kf (arrOf st) (lo+(n-1)):=by
     intro k v;clear o a c ex;have a1:=f 0 k (Nat.zero_le _) v;have a2:=f k (n-1) (by omega) (by omega);exact KeyOrd.kle_antisymm a2 (KeyOrd.kle_trans r a1)
    have y:∀k,kx kf (mirror (arrOf st) lo (lo+n) ((lo+n-lo) / 2)) k=kx kf (arrOf st) k:=M5 (Nat.le_of_lt o) λk M L=>by
     rw[ex];clear o a c ex q;have:=d (k-lo) (by omega);rwa[show lo+(k-lo)=k by omega]at this
    have e:Kept lo st (setArr st (mirror (arrOf st) lo (lo+n) ((lo+n-lo) / 2))):=Kept.rev (Nat.le_refl _) (Nat.le_of_lt o);refine wpS_bind (wpS_reverse (a7D g (e.1.trans v) (F.perm e.2.2.2.1) (by rw[e.2.2.2.1.size_eq];exact q) a (λi j z J=>?_) λK I k2=>h K I (e.trans k2)));show O.kle (kx kf (mirror (arrOf st) _ _ _) _) (kx kf (mirror (arrOf st) _ _ _) _);rw[y,y];clear o a c ex q l;by_cases G:j<n
    .rw[d i (by omega),d j G];exact KeyOrd.kle_refl _
    .have hj':j=n:=by omega
     subst hj';by_cases t:i=j
     .subst t;exact KeyOrd.kle_refl _
     .rw[d i (by omega)];exact KeyOrd.kle_of_klt x
  .rw[if_neg u];have C:n=1:=by omega
   subst C;refine a7D g v F p a (λi j z J=>?_) h;clear o a c p l u;by_cases t:i=j
   .subst t;exact KeyOrd.kle_refl _
   .have hi0:i=0:=by omega
    have H:j=1:=by omega
    subst hi0;subst H;exact KeyOrd.kle_of_klt x
end
noncomputable def a1A:Nat->List (List Keyed)->List (Nat×Nat)
 |_,[]=>[]
 |o,r::rs=>(o,r.length)::a1A (o+r.length) rs
theorem O8:∀(o:Nat) (X Y:List (List Keyed)),a1A o (X++Y)=a1A o X++a1A (o+X.flatten.length) Y
 |o,[],Y=>by simp[a1A]
 |o,r::X,Y=>by
  simp only[List.cons_append,a1A,O8 (o+r.length) X Y,List.flatten_cons,List.length_append,Nat.add_assoc]
theorem a2w:∀(o:Nat) (X:List (List Keyed)),(a1A o X).length=X.length
 |_,[]=>rfl
 |o,r::X=>by simp only[a1A,List.length_cons,a2w (o+r.length) X]
noncomputable abbrev ent(e:Nat×Nat×Nat):Nat×Nat:=(e.1,e.2.1)
section
variable {prog:Program}{w:World}{A:Around}{E:Value->Shared->Prop}{s:Shared}{κ:SortKind}{D:Keyed->Prop}{O:KeyOrd}{kf:Keyed->O.α}{st:SortSt}{a0:Array Keyed}
structure RI(kf:Keyed->O.α)(κ:SortKind)(a0:Array Keyed)(st:SortSt)(runs:List (List Keyed))(rest:List Keyed):Prop where
 kind:kindOf st=κ
 failed:failedOf st=none
 perm:(arrOf st).Perm a0
 eq:(arrOf st).toList=runs.flatten++rest
 sorted:∀r∈runs,r.Pairwise (leK kf)
 ne:∀r∈runs,0<r.length
 pend:(pendingOf st).toList.map ent=a1A 0 runs
theorem RI.size{runs:List (List Keyed)}{rest:List Keyed}(h:RI kf κ a0 st runs rest):(pendingOf st).size=runs.length:=by
 rw[<-Array.length_toList,<-List.length_map (f:=ent),h.pend,a2w]
theorem a1j{X Y:List (List Keyed)}{ra rb rest:List Keyed}{Q:Bool->SortSt->Prop}(j:Cmp prog w A s κ D (ltK kf))(F:AllD D a0)(h:RI kf κ a0 st (X++ra::rb::Y) rest)
  (q:∀(st':SortSt) (M:List Keyed),RI kf κ a0 st' (X++M::Y) rest->M.length=ra.length+rb.length->Q true st'):wpS (model prog w) A E s (mergeAt' X.length) Q st:=by
 have hp:=h.pend;rw[O8,a1A,a1A]at hp;obtain⟨l1,l2,e,m,G⟩:=List.map_eq_append_iff.mp hp;obtain⟨x,l3,t,c,H⟩:=List.map_eq_cons_iff.mp G;obtain⟨y,l4,C,d,n⟩:=List.map_eq_cons_iff.mp H;subst t C;obtain⟨o,u,l⟩:=x;obtain⟨I,v,i⟩:=y;rw[Nat.zero_add]at c d n;have c:(o,u)=(X.flatten.length,ra.length):=c;have d:(I,v)=(X.flatten.length+ra.length,rb.length):=d;cases c;cases d;have B:l1.length=X.length:=by rw[<-List.length_map (f:=ent),m,a2w]
 have J:(pendingOf st)[X.length]?=some (X.flatten.length,ra.length,l):=by
  rw[<-Array.getElem?_toList,e,List.getElem?_append_right (by omega),show X.length-l1.length=0 by omega];rfl
 have p:(pendingOf st)[X.length+1]?=some (X.flatten.length+ra.length,rb.length,i):=by
  rw[<-Array.getElem?_toList,e,List.getElem?_append_right (by omega),show X.length+1-l1.length=1 by omega];rfl
 have a:Runs2 kf D (arrOf st) X.flatten ra rb (Y.flatten++rest):=by
  refine⟨?_,λz k=>(F.perm h.perm) z k,h.sorted _ (by simp),h.sorted _ (by simp),h.ne _ (by simp),h.ne _ (by simp)⟩;rw[h.eq];simp[List.append_assoc]
 refine a5f j h.kind a J p h.failed λst' M k1 k2 k3 k4 k5=>?_;have b:M.length=ra.length+rb.length:=by rw[k4.1.length_eq,List.length_append]
 refine q st' M ⟨k1,k2,?_,?_,λr g=>?_,λr g=>?_,?_⟩ b
 .refine Array.perm_iff_toList_perm.mpr ?_;refine List.Perm.trans ?_ (Array.perm_iff_toList_perm.mp h.perm);rw[k5,a.eq];refine List.Perm.append_right _ ?_;rw[List.append_assoc X.flatten];exact List.Perm.append_left _ k4.1
 .rw[k5];simp[List.append_assoc]
 .rcases List.mem_append.mp g with z|z
  .exact h.sorted r (List.mem_append_left _ z)
  .rcases List.mem_cons.mp z with rfl|z
   .exact k4.2
   .exact h.sorted r (List.mem_append_right _ (List.mem_cons_of_mem _ (List.mem_cons_of_mem _ z)))
 .rcases List.mem_append.mp g with z|z
  .exact h.ne r (List.mem_append_left _ z)
  .rcases List.mem_cons.mp z with rfl|z
   .have:=h.ne ra (by simp);omega
   .exact h.ne r (List.mem_append_right _ (List.mem_cons_of_mem _ (List.mem_cons_of_mem _ z)))
 .rw[k3,Array.eraseIdxIfInBounds];have k:(pendingOf st).size=X.length+(Y.length+2):=by rw[h.size];simp
  rw[dif_pos (by rw[Array.size_setIfInBounds];omega),Array.toList_eraseIdx,Array.toList_setIfInBounds,e];rw[List.set_append_right _ _ (by omega),show X.length-l1.length=0 by omega,List.set_cons_zero];rw[List.eraseIdx_append_of_length_le (by omega),show X.length+1-l1.length=1 by omega];show(l1++(X.flatten.length,ra.length+rb.length,l)::l4).map ent=_;rw[List.map_append,List.map_cons,m,n,O8,a1A,Nat.zero_add,b];show _++(X.flatten.length,ra.length+rb.length)::_=_;rw[Nat.add_assoc]
end
noncomputable def a1R(lo n:Nat):StateT SortSt Sem (ForInStep (Option Unit×Nat)) :=
 (modify λs=>setPending s ((pendingOf s).push (lo,n,0)))>>=λ_=>pure (.yield (none,lo+n))
noncomputable def V9(sz pw:Nat):StateT SortSt Sem (Option Unit×Unit) :=
 forIn [:sz] ((none,()):Option Unit×Unit) λ_ _=>get>>=λg=>match (if (pendingOf g).size > 1 then(pendingOf g)[(pendingOf g).size-2]? else none)with
  |some (_,_,older)=>(if older<=pw then pure (.done (none,()))else mergeAt' ((pendingOf g).size-2)>>=λb=>if (!b)=true then pure (.done (some (),()))else pure (.yield (none,())))
  |_=>pure (.done (none,()))
noncomputable def a0i(sz lo n:Nat):StateT SortSt Sem (ForInStep (Option Unit×Nat)):=get>>=λg=>match (pendingOf g).back? with
 |some (s1,n1,_)=>V9 sz (power' sz (2*s1+n1) (2*s1+n1+n1+n) sz)>>=λc=>match c.1 with
  |some r=>pure (.done (some r,lo))
  |none=>(modify λs=>setPending s ((pendingOf s).modify ((pendingOf s).size-1) λx=>(x.1,x.2.1,power' sz (2*s1+n1) (2*s1+n1+n1+n) sz)))>>=λ_=>a1R lo n
 |_=>a1R lo n
noncomputable def a8k(sz:Nat):StateT SortSt Sem (Option Unit×Unit) :=
 forIn [:sz] ((none,()):Option Unit×Unit) λ_ _=>get>>=λg=>if (pendingOf g).size<=1 then pure (.done (none,()))
  else mergeAt' (if Option.any (λx=>decide (x<(pendingOf g)[(pendingOf g).size-2+1]?.elim 0 λx=>x.2.1)) (if (pendingOf g).size-2 > 0 then Option.map (λx=>x.2.1) (pendingOf g)[(pendingOf g).size-2-1]? else none)=true then(pendingOf g).size-2-1 else(pendingOf g).size-2)>>=λb=>if (!b)=true then pure (.done (some (),()))else pure (.yield (none,()))
section
variable {prog:Program}{w:World}{A:Around}{E:Value->Shared->Prop}{s:Shared}{κ:SortKind}{D:Keyed->Prop}{O:KeyOrd}{kf:Keyed->O.α}{st:SortSt}{a0:Array Keyed}{runs:List (List Keyed)}{rest:List Keyed}
theorem two_last{α:Type}{l:List α}(h:2<=l.length):∃X a b,l=X++[a,b]/\X.length=l.length-2:=by
 refine⟨l.take (l.length-2),l[l.length-2],l[l.length-1],?_,by rw[List.length_take];omega⟩;have c:l.drop (l.length-2)=[l[l.length-2],l[l.length-1]]:=by
  rw[List.drop_eq_getElem_cons (by omega),List.drop_eq_getElem_cons (by omega),List.drop_eq_nil_of_le (by omega)];congr 2;congr 1;omega
 rw[<-c,List.take_append_drop]
theorem a4e{sz j:Nat}{Q:Option Unit×Unit->SortSt->Prop}(f:Cmp prog w A s κ D (ltK kf))(i:AllD D a0)(h:RI kf κ a0 st runs rest)
  (q:∀st' a,RI kf κ a0 st' a rest->a.flatten.length=runs.flatten.length->a.length<=runs.length->Q (none,()) st'):wpS (model prog w) A E s (V9 sz j) Q st:=by
 unfold V9;refine wpS_forRange (I:=λ_ c st'=>c=(none,())/\∃a,RI kf κ a0 st' a rest/\a.flatten.length=runs.flatten.length/\a.length<=runs.length) ?step (λc st' ⟨e,d,h1,h2,b⟩=>by rw[e];exact q st' d h1 h2 b) ⟨rfl,runs,h,rfl,Nat.le_refl _⟩;rintro x c st' _ _ ⟨rfl,d,h1,h2,b⟩;refine wpS_bind (wpS_get ?_);split
 .rename_i older heq;split
  .exact wpS_pure (q st' d h1 h2 b)
  .have hz:(pendingOf st').size > 1:=by
    refine Nat.lt_of_not_le λz=>?_;rw[if_neg (by omega)]at heq;cases heq
   have hs:=h1.size;obtain⟨X,ra,rb,g,k⟩:=two_last (l:=d) (by omega);rw[g]at h1;rw[show(pendingOf st').size-2=X.length by omega];refine wpS_bind (a1j f i h1 λm M k1 k2=>?_);rw[if_neg (by simp)];refine wpS_pure ⟨rfl,_,k1,?_,?_⟩
   .rw[<-h2,g];simp[k2]
   .rw[g]at b;simp at b⊢;omega
 .exact wpS_pure (q st' d h1 h2 b)
theorem a1i{lo n:Nat}{Q:ForInStep (Option Unit×Nat)->SortSt->Prop}{r:List Keyed}(h:RI kf κ a0 st runs (r++rest))(c:r.Pairwise (leK kf))(d:0<n)(hl:r.length=n)(b:lo=runs.flatten.length)
  (q:∀st',RI kf κ a0 st' (runs++[r]) rest->Q (.yield (none,lo+n)) st'):wpS (model prog w) A E s (a1R lo n) Q st:=by
 unfold a1R;refine wpS_bind (wpS_modify (wpS_pure (q _ ⟨h.kind,h.failed,h.perm,?_,λz a=>?_,λz a=>?_,?_⟩)))
 .show(arrOf st).toList=_;rw[h.eq];simp
 .rcases List.mem_append.mp a with y|y
  .exact h.sorted z y
  .rw[List.mem_singleton.mp y];exact c
 .rcases List.mem_append.mp a with y|y
  .exact h.ne z y
  .rw[List.mem_singleton.mp y,hl];exact d
 .show((pendingOf st).push (lo,n,0)).toList.map ent=_;rw[Array.toList_push,List.map_append,h.pend,O8,Nat.zero_add,b,<-hl];rfl
theorem map_modify{p:Array (Nat×Nat×Nat)}{i a:Nat}:(p.modify i λx=>(x.1,x.2.1,a)).toList.map ent=p.toList.map ent:=by
 rw[Array.toList_modify];refine List.ext_getElem? λj=>?_;rw[List.getElem?_map,List.getElem?_map,List.getElem?_modify];cases p.toList[j]? with
 |none=>rfl
 |some x =>
  by_cases e:i=j
  .simp[e]
  .simp[e]
theorem a6r{sz lo n:Nat}{Q:ForInStep (Option Unit×Nat)->SortSt->Prop}{r:List Keyed}(c:Cmp prog w A s κ D (ltK kf))(g:AllD D a0)(h:RI kf κ a0 st runs (r++rest))(e:r.Pairwise (leK kf))(f:0<n)(hl:r.length=n)(b:lo=runs.flatten.length)
  (q:∀st' a,RI kf κ a0 st' a rest->a.flatten.length=lo+n->a.length<=runs.length+1->Q (.yield (none,lo+n)) st'):wpS (model prog w) A E s (a0i sz lo n) Q st:=by
 unfold a0i;refine wpS_bind (wpS_get ?_);split
 .refine wpS_bind (a4e c g h λst' a k1 k2 k3=>?_);dsimp only;refine wpS_bind (wpS_modify ?_);refine a1i (runs:=a) (rest:=rest) ⟨k1.kind,k1.failed,k1.perm,k1.eq,k1.sorted,k1.ne,map_modify.trans k1.pend⟩ e f hl (by rw[k2];exact b) λd k4=>q d _ k4 ?_ ?_
  .simp[k2,hl,b]
  .simp;omega
 .refine a1i h e f hl b λd k4=>q d _ k4 ?_ ?_
  .simp[hl,b]
  .simp
end
section
variable {prog:Program}{w:World}{A:Around}{E:Value->Shared->Prop}{s:Shared}{κ:SortKind}{D:Keyed->Prop}{O:KeyOrd}{kf:Keyed->O.α}{st:SortSt}{a0:Array Keyed}{runs:List (List Keyed)}{rest:List Keyed}
theorem b2y{α:Type}{l:List α}{i:Nat}(h:i+1<l.length):∃X a b Y,l=X++a::b::Y/\X.length=i:=by
 refine⟨l.take i,l[i],l[i+1],l.drop (i+1+1),?_,by rw[List.length_take];omega⟩;rw[<-List.drop_eq_getElem_cons (by omega),<-List.drop_eq_getElem_cons (by omega),List.take_append_drop]
theorem a5g{sz:Nat}{Q:Option Unit×Unit->SortSt->Prop}(j:Cmp prog w A s κ D (ltK kf))(k:AllD D a0)(h:RI kf κ a0 st runs rest)(hl:runs.length<=sz)
  (q:∀st' a,RI kf κ a0 st' a rest->a.length<=1->Q (none,()) st'):wpS (model prog w) A E s (a8k sz) Q st:=by
 unfold a8k;refine wpS_forRange (I:=λx c st'=>c=(none,())/\∃a,RI kf κ a0 st' a rest/\a.length+x<=sz+1) ?step (λc st' ⟨e,g,h1,h2⟩=>by rw[e];exact q st' g h1 (by omega)) ⟨rfl,runs,h,by omega⟩;rintro x c st' _ _ ⟨rfl,g,h1,h2⟩;refine wpS_bind (wpS_get ?_);have hs:=h1.size;split
 .exact wpS_pure (q st' g h1 (by omega))
 .rename_i hz;have go:∀i,i+1<g.length->wpS (model prog w) A E s ((mergeAt' i>>=λb=>if (!b)=true then pure (ForInStep.done (some (),()))else pure (ForInStep.yield (none,()))):StateT SortSt Sem (ForInStep (Option Unit×Unit))) (λr d=>match r with|ForInStep.done c'=>Q c' d|ForInStep.yield c'=>c'=(none,())/\∃a,RI kf κ a0 d a rest/\a.length+(x+1)<=sz+1) st':=λi hi=>by
   obtain⟨X,ra,rb,Y,m,n⟩:=b2y hi;rw[m]at h1 h2;rw[<-n];refine wpS_bind (a1j j k h1 λo M k1 k2=>?_);rw[if_neg (by simp)];refine wpS_pure ⟨rfl,_,k1,?_⟩;simp at h2⊢;omega
  refine wpS_mono (go _ ?_) (λr d l=>by cases r<;>exact l);by_cases f:(pendingOf st').size-2 > 0
  .rw[if_pos f];split<;>omega
  .rw[if_neg f,if_neg (by simp)];omega
theorem RI.kept{st':SortSt}(h:RI kf κ a0 st runs rest)(k:Kept runs.flatten.length st st'):RI kf κ a0 st' runs ((arrOf st').toList.drop runs.flatten.length):=by
 refine⟨k.1.trans h.kind,k.2.2.1.trans h.failed,k.2.2.2.1.trans h.perm,?_,h.sorted,h.ne,by rw[k.2.1];exact h.pend⟩;have e:(arrOf st').toList.take runs.flatten.length=runs.flatten:=by
  have a:(arrOf st).toList.take runs.flatten.length=runs.flatten:=by rw[h.eq,List.take_left'];rfl
  rw[<-a];refine List.ext_getElem? λi=>?_;rw[List.length_take];by_cases hi:i<runs.flatten.length
  .have hle:runs.flatten.length<=(arrOf st).toList.length:=by rw[h.eq,List.length_append];omega
   rw[List.getElem?_take_of_lt (by omega),List.getElem?_take_of_lt hi,Array.getElem?_toList,Array.getElem?_toList];exact k.2.2.2.2 i hi
  .rw[List.getElem?_eq_none (by rw[List.length_take];omega),List.getElem?_eq_none (by rw[List.length_take];omega)]
 rw[<-List.take_append_drop runs.flatten.length (arrOf st').toList,e];congr 1;rw[List.drop_append_of_le_length (Nat.le_refl _),List.drop_length,List.nil_append]
theorem b2N{arr:Array Keyed}{lo n:Nat}(h:SoO kf arr lo n)(c:lo+n<=arr.size):((arr.toList.drop lo).take n).Pairwise (leK kf):=by
 rw[List.pairwise_iff_getElem];intro i j hi b a;rw[List.length_take,List.length_drop,Array.length_toList]at hi b;have q:=h i j (Nat.le_of_lt a) (by omega);unfold leK;have g:∀k,k<n->kx kf arr (lo+k)=kf (arr[lo+k]?.getD (Value.none,Value.none)):=λk _=>by unfold kx;rw[Array.getD_eq_getD_getElem?]
 rw[g i (by omega),g j (by omega),getElem?_pos arr _ (by omega),getElem?_pos arr _ (by omega)]at q;simp only[List.getElem_take,List.getElem_drop,Array.getElem_toList];exact q
theorem a2o:∀{runs:List (List Keyed)},(∀r∈runs,0<r.length)->runs.length<=runs.flatten.length
 |[],_=>Nat.le_refl _
 |r::runs,h=>by
  have:=a2o (runs:=runs) λz a=>h z (List.mem_cons_of_mem _ a);have:=h r List.mem_cons_self;simp only[List.length_cons,List.flatten_cons,List.length_append];omega
theorem a3s{α:Type}{m m':StateT SortSt Sem α}{Q:α->SortSt->Prop}(e:m=m')(h:wpS (model prog w) A E s m' Q st):wpS (model prog w) A E s m Q st:=by rw[e];exact h
theorem a5c{Q:Unit->SortSt->Prop}(i:Cmp prog w A s κ D (ltK kf))(H:kindOf st=κ)(B:AllD D (arrOf st))(hp:pendingOf st=#[])(hf:failedOf st=none)
  (q:∀st':SortSt,(arrOf st').Perm (arrOf st)->failedOf st'=none->(arrOf st').toList.Pairwise (leK kf)->Q () st'):wpS (model prog w) A E s sortRuns' Q st:=by
 rw[sortRuns'_eq];refine wpS_bind (wpS_get ?_);dsimp only;generalize hsz:(arrOf st).size=sz;have h0:RI kf κ (arrOf st) st [] (arrOf st).toList:=⟨H,hf,.refl _,rfl,(λ_ z=>nomatch z),(λ_ z=>nomatch z),by rw[hp];rfl⟩;have zz:∀{st':SortSt}{runs:List (List Keyed)}{rest:List Keyed},RI kf κ (arrOf st) st' runs rest->(arrOf st').size=sz:=λh=>by rw[h.perm.size_eq];exact hsz
 have G:∀{st':SortSt}{runs:List (List Keyed)}{rest:List Keyed},RI kf κ (arrOf st) st' runs rest->runs.flatten.length+rest.length=sz:=λh=>by
  have:=congrArg List.length h.eq;rw[Array.length_toList,zz h,List.length_append]at this;omega
 refine wpS_bind (wpS_mono (wpS_forRange (I:=λx c st'=>c.1=none/\∃runs rest,RI kf κ (arrOf st) st' runs rest/\c.2=runs.flatten.length/\x<=c.2)
  (Q:=λc st'=>c.1=none/\∃runs,RI kf κ (arrOf st) st' runs []/\runs.length<=sz) ?step ?fin ⟨rfl,[],_,h0,rfl,Nat.le_refl _⟩) ?post)
 case fin =>
  rintro c st' ⟨l,runs,rest,h1,h2,F⟩;have:=G h1;have k:rest=[]:=List.eq_nil_of_length_eq_zero (by omega);subst k;exact⟨l,runs,h1,by have:=a2o h1.ne;omega⟩
 case step =>
  rintro x c st' _ S ⟨l,runs,rest,h1,h2,F⟩;obtain⟨N,lo⟩:=c;dsimp only at l h2 F⊢;subst l;have R:=G h1;have y:=zz h1;by_cases t:lo ≥ sz
  .rw[if_pos t];have k:rest=[]:=List.eq_nil_of_length_eq_zero (by omega);subst k;exact wpS_pure ⟨rfl,runs,h1,by have:=a2o h1.ne;omega⟩
  .rw[if_neg t];have p:=B.perm h1.perm;have add:∀(n:Nat) (d:SortSt),Kept lo st' d->0<n->lo+n<=sz->SoO kf (arrOf d) lo n->wpS (model prog w) A E s (a0i sz lo n) (λr e=>match r with|ForInStep.done c'=>c'.1=none/\∃runs,RI kf κ (arrOf st) e runs []/\runs.length<=sz|ForInStep.yield c'=>c'.1=none/\∃runs rest,RI kf κ (arrOf st) e runs rest/\c'.2=runs.flatten.length/\x+1<=c'.2) d:=λn d j hn0 M f=>by
    rw[h2]at j;have hR:=h1.kept j;rw[<-h2]at hR;have C:=zz hR;rw[<-List.take_append_drop n ((arrOf d).toList.drop lo)]at hR;refine a6r i B hR (b2N f (by omega)) hn0 (by rw[List.length_take,List.length_drop,Array.length_toList];omega) h2 λL K k1 k2 k3=>⟨rfl,K,_,k1,k2.symm,by show x+1<=lo+n;omega⟩
   refine wpS_bind (a6p i h1.kind p (by omega) (by omega) λm d j O J f=>?_);dsimp only;split
   .refine wpS_bind (P7 ?_);have C:(arrOf d).size=sz:=by rw[j.2.2.2.1.size_eq];exact y
    refine wpS_bind (b0e i (j.1.trans h1.kind) (p.perm j.2.2.2.1) (by omega) (by omega) f λL v u=>?_);rw[if_neg (by simp)];refine a3s (m':=a0i sz lo (min (sz-lo) (minRun' sz sz 0))) (by
     unfold a0i;refine congrArg _ (funext λg=>?_);rcases(pendingOf g).back? with _|⟨s1,n1,z⟩
     .rfl
     .dsimp only;refine congr (congrArg _ ?_) (funext λc=>?_)
      .unfold V9;refine congrArg _ (funext λ_=>funext λ_=>congrArg _ (funext λg=>?_));generalize (if (pendingOf g).size > 1 then(pendingOf g)[(pendingOf g).size-2]? else none)=o;rcases o with _|⟨a,b,o⟩<;>rfl
      .rcases c with⟨_|q,c⟩<;>rfl) (wpS_mono (add _ L (j.trans v) (by omega) (by omega) u) λr e k=>by cases r<;>exact k)
   .refine a3s (m':=a0i sz lo m) (by
     unfold a0i;refine congrArg _ (funext λg=>?_);rcases(pendingOf g).back? with _|⟨s1,n1,z⟩
     .rfl
     .dsimp only;refine congr (congrArg _ ?_) (funext λc=>?_)
      .unfold V9;refine congrArg _ (funext λ_=>funext λ_=>congrArg _ (funext λg=>?_));generalize (if (pendingOf g).size > 1 then(pendingOf g)[(pendingOf g).size-2]? else none)=o;rcases o with _|⟨a,b,o⟩<;>rfl
      .rcases c with⟨_|q,c⟩<;>rfl) (wpS_mono (add _ d j (by omega) (by omega) f) λr e k=>by cases r<;>exact k)
 case post =>
  rintro c st' ⟨l,runs,h1,h2⟩;obtain⟨N,lo⟩:=c;dsimp only at l;subst l;dsimp only;refine wpS_bind (a5g (sz:=sz) i B h1 h2 λd P k1 k2=>?_);dsimp only;refine wpS_pure (q d k1.perm k1.failed ?_);rw[k1.eq,List.append_nil]
  match P,k2,k1.sorted with
  |[],_,_=>exact .nil
  |[r],_,hs=>simpa using hs r (by simp)
  |_::_::_,k2,_=>simp at k2
end
noncomputable def E7(h:Heap)(v:Value):List Int:=match v with
 |.ref b=>match h.get? b with
  |some o=>match o.data with
   |.seq xs _=>xs.toList.map numOf
   |_=>[]
  |none=>[]
 |_=>[]
theorem C6{h:Heap}{b:Addr}{its:Array Value}{r:List Int}(t:IsTup h b its)(i:IntsAre its.toList r):E7 h (.ref b)=r:=by
 obtain⟨o,h1,h2,n,a⟩:=t;unfold E7;simp only[h1,a];exact i.nums
theorem M4{α β:Type}{f:α->β}{os d:List β}(h:os.Perm d):∀{T:List α},d=T.map f->∃c:List α,c.Perm T/\c.map f=os:=by
 induction h with
 |nil=>intro T e;cases T with|nil=>exact⟨[],.nil,rfl⟩|cons _ _=>cases e
 |cons x _ ih =>
  intro T e;cases T with
  |nil=>cases e
  |cons t T =>
   injection e with e1 e2
   obtain⟨c,h1,h2⟩:=ih e2;exact⟨t::c,h1.cons t,by rw[List.map_cons,h2,e1]⟩
 |swap x y l =>
  intro T e
  match T,e with
  |a::b::T,e =>
   injection e with e1 e2
   injection e2 with e2 e3
   exact⟨b::a::T,.swap a b T,by rw[List.map_cons,List.map_cons,e1,e2,e3]⟩
 |trans _ _ ih1 ih2 =>
  intro T e;obtain⟨c,h1,h2⟩:=ih2 e;obtain⟨T2,g,i⟩:=ih1 h2.symm;exact⟨T2,g.trans h1,i⟩
section
variable {prog:Program}{w:World}{A:Around}{E:Value->Shared->Prop}{s:Shared}
noncomputable def kfH(h:Heap):Keyed->OL.α:=λx=>(E7 h x.1:List Int)
def DH(h:Heap)(x:Keyed):Prop:=∃b its r,x.1=Value.ref b/\IsTup h b its/\IntsAre its.toList r
theorem b7O:Cmp prog w A s (tuples' true) (DH s.heap) (ltK (kfH s.heap)):=by
 rintro⟨x,q⟩ ⟨y,l⟩ C ⟨b,its,r,f,t1,c⟩ ⟨b',its',j,g,t2,e⟩ hc;dsimp only at f g;subst f g;have hc:C (HT.lexLt (E7 s.heap (.ref b)) (E7 s.heap (.ref b'))) s:=hc;rw[C6 t1 c,C6 t2 e]at hc;obtain⟨o,h,m,n,i⟩:=t1;obtain⟨o',d,k,p,a⟩:=t2;refine kat_lt h i d a (a1s 0 c e ?_);have l1:its.size=r.length:=by rw[<-Array.length_toList];exact c.length
 have l2:its'.size=j.length:=by rw[<-Array.length_toList];exact e.length
 rw[l1,l2,a5T];exact hc
theorem Z8{a:Addr}{vs:List Value}{rss:LLI}{n:Nat}{P:Fin->Shared->Prop}(q:s.heap.get? a=some (seqObj "list" vs.toArray n))(T:TupsAre s.heap vs rss)(hw:∀r∈rss,0<r.length)(V:vs.length<=sizeLine)
  (h:∀os:List Value,os.Perm vs->os.Pairwise (λx y=>HT.lexLt (E7 s.heap y) (E7 s.heap x)=false)->P (.done (.ret .none)) {s with heap:=sortedHeap s.heap a vs os.toArray}) :
  wpAny (model prog w) A (Builtin.«list.sort» ⟨[.ref a],[]⟩) P E s:=by
 rw[list_sort_plain];have ha:a<s.heap.objs.size:=Heap.lt_size q;refine wpAny_bind (listItems_at q rfl ?_);refine wpAny_bind (listUpdate_at q rfl ?_ (by rw[List.size_toArray];omega) (Nat.zero_le _));obtain⟨I,B⟩:∃I,(s.heap.update a (Obj.mapSeq λ_=>#[])).get? a=some (seqObj "list" #[] I):=⟨_,get?_update_seq q (λ_=>#[])⟩;refine wpAny_bind (seqEpoch_at B rfl ?_);refine wpAny_bind (wpAny_newTuple ?_ (by show vs.length<=_;omega));refine wpAny_bind (wpAny_newList ?_ (Nat.zero_le _));refine wpAny_holding ?_;have g:(((s.heap.update a (Obj.mapSeq λ_=>#[])).push (seqObj "tuple" vs.toArray 0)).push (seqObj "list" #[] 0)).get? a=some (seqObj "list" #[] I):=by
  rw[Heap.get?_push_ne _ _ _ (by rw[size_push',Heap.size_update];exact Nat.ne_of_lt (Nat.lt_succ_of_lt ha)),Heap.get?_push_ne _ _ _ (by rw[Heap.size_update];exact Nat.ne_of_lt ha)];exact B
 have d:∀b its,IsTup s.heap b its->IsTup (((s.heap.update a (Obj.mapSeq λ_=>#[])).push (seqObj "tuple" vs.toArray 0)).push (seqObj "list" #[] 0)) b its:=λb its ⟨o,t,k,H⟩=>by
  have hb:b≠a:=λz=>by
   rw[z,q]at t;cases t;have k:Value.type "list"=Value.type "tuple":=k;injection k with k
   exact absurd k (by decide)
  refine⟨o,?_,k,H⟩;exact Heap.get?_push_of_some _ (Heap.get?_push_of_some _ (by rw[Heap.get?_update_ne _ _ _ _ hb];exact t))
 have L:=T.keeps d;show wpAny (model prog w) A _ P E {s with heap:=((s.heap.update a (Obj.mapSeq λ_=>#[])).push (seqObj "tuple" vs.toArray 0)).push (seqObj "list" #[] 0)};have c:∀v∈vs,E7 (((s.heap.update a (Obj.mapSeq λ_=>#[])).push (seqObj "tuple" vs.toArray 0)).push (seqObj "list" #[] 0)) v=E7 s.heap v:=λv R=>by
  obtain⟨i,hi⟩:=List.mem_iff_getElem?.mp R;obtain⟨r,b,its,_,J,C,F⟩:=T.2 i v hi;rw[J,C6 C F,C6 (d b its C) F]
 generalize N:((s.heap.update a (Obj.mapSeq λ_=>#[])).push (seqObj "tuple" vs.toArray 0)).push (seqObj "list" #[] 0)=l at g L c;dsimp only;have fin:∀os:List Value,os.Perm vs->os.Pairwise (λx y=>HT.lexLt (E7 s.heap y) (E7 s.heap x)=false)->P (.done (.ret .none)) {s with heap:=l.update a (Obj.mapSeq λ_=>os.toArray)}:=λos h1 h2=>by
  have:=h os h1 h2;unfold sortedHeap at this;rw[N]at this;exact this
 by_cases h2:vs.toArray.size<2
 .have h2':vs.length<2:=by simpa using h2
  rw[if_pos h2,if_pos h2];refine wpAny_bind (wpAny_pure ?_);rw[StateT.run_pure];refine wpAny_bind (wpAny_pure ?_);dsimp only;refine wpAny_bind (seqEpoch_at g rfl ?_);refine wpAny_bind (listUpdate_at g rfl ?_ (Nat.zero_le _) (by rw[Array.size_map];show(pairsOf vs).size<=_;rw[pairsOf_size];omega));simp only[bne_self_eq_false,Bool.false_eq_true,if_false];have e:((vs.toArray.zip vs.toArray).map (·.2))=vs.toArray:=by
   apply Array.toList_inj.mp;simp[List.map_snd_zip]
  show wpAny _ _ _ _ _ {s with heap:=l.update a (Obj.mapSeq λ_=>(vs.toArray.zip vs.toArray).map (·.2))};rw[e];refine wpAny_pure (fin vs (.refl _) ?_);rw[List.pairwise_iff_getElem];intro i j hi W S;omega
 .have h2':2<=vs.length:=by
   have:¬vs.length<2:=by simpa using h2
   omega
  rw[if_neg h2,if_neg h2];refine wpAny_bind (a8E L hw (by omega) ?_);have M:AllD (DH l) (vs.toArray.zip vs.toArray):=λx m=>by
   have G:x∈vs.zip vs:=by simpa using m
   obtain⟨_,O⟩:=mem_zip_self G;obtain⟨i,hi⟩:=List.mem_iff_getElem?.mp O;obtain⟨r,b,its,_,J,C,F⟩:=L.2 i _ hi;exact⟨b,its,r,J,C,F⟩
  refine wpAny_bind (wpAny_mono (a5c (s:={s with heap:=l}) (st:=SortSt.mk' (tuples' true) (vs.toArray.zip vs.toArray) #[] 7 none) (kf:=kfH l) (D:=DH l) (b7O (s:={s with heap:=l})) rfl M rfl rfl
   (Q:=λ_ st'=>(arrOf st').Perm (vs.toArray.zip vs.toArray)/\failedOf st'=none/\(arrOf st').toList.Pairwise (leK (kfH l))) λst' t k H=>⟨t,k,H⟩) ?_ λ_ _ e=>e)
  rintro⟨⟨⟩,st'⟩ s' ⟨rfl,hp,hf,hs⟩;dsimp only at hp hf hs⊢;have p:(arrOf st').toList.Perm (vs.zip vs):=by
   have:=Array.perm_iff_toList_perm.mp hp;simpa using this
  have u:((arrOf st').toList.map (·.2)).Perm vs:=by
   have:=p.map Prod.snd;rwa[List.map_snd_zip (Nat.le_refl _)]at this
  have f:∀x∈(arrOf st').toList,x.1=x.2/\x.1∈vs:=λx m=>mem_zip_self (p.mem_iff.mp m);have e:(arrOf st').map (·.2)=((arrOf st').toList.map (·.2)).toArray:=by
   apply Array.toList_inj.mp;simp
  refine wpAny_bind (seqEpoch_at g rfl ?_);rw[e];refine wpAny_bind (listUpdate_at g rfl ?_ (Nat.zero_le _) (by rw[List.size_toArray,u.length_eq];omega));rw[hf];simp only[bne_self_eq_false,Bool.false_eq_true,if_false];refine wpAny_pure (fin _ u ?_);rw[List.pairwise_map];refine hs.imp_of_mem λ{x y} m U K=>?_;have h1:=f x m;have h2:=f y U;rw[<-h1.1,<-h2.1,<-c _ h1.2,<-c _ h2.2];exact K
theorem a1H{x:Value}{vs:List Value}{rss:LLI}{Q:Value->Shared->Prop}(g:∀(D:Around) (u:Value->Shared->Prop) (n:List Value->Shared->Prop),(∀h1:Heap,(∀b o,s.heap.get? b=some o->h1.get? b=some o)->n vs {s with heap:=h1})->wpAny (model prog w) D (collect x) n u s)
  (T:TupsAre s.heap vs rss) (hw:∀r∈rss,0<r.length) (z:vs.length<=sizeLine)
  (h:∀(h1 h':Heap) (os:List Value) (c:Nat),(∀b o,s.heap.get? b=some o->h1.get? b=some o)->(∀b o,h1.get? b=some o->h'.get? b=some o)->h'.get? h1.objs.size=some (seqObj "list" os.toArray c)->os.Perm vs->os.Pairwise (λx y=>HT.lexLt (E7 s.heap y) (E7 s.heap x)=false)->Q (.ref h1.objs.size) {s with heap:=h'}) :
  wpAny (model prog w) A (call (.builtin "sorted") [x]) Q E s:=by
 refine Calls.call_function_entry kind_sorted plain_sorted entry_sorted (args_sorted1 _) ?_;unfold Builtin.«sorted»;refine wpAny_bind (m:=checkCount "sorted" 1 1 _) (wpAny_pure ?_);refine wpAny_bind (g _ _ _ λh1 k1=>?_);refine wpAny_bind (wpAny_newList ?_ (by omega));have f:(h1.push (seqObj "list" vs.toArray 0)).get? h1.objs.size=some (seqObj "list" vs.toArray 0):=Heap.get?_push_size _ rfl;have a:∀b its,IsTup s.heap b its->IsTup (h1.push (seqObj "list" vs.toArray 0)) b its:=λb its ⟨o,t,q⟩=>⟨o,Heap.get?_push_of_some _ (k1 _ _ t),q⟩;have T2:=T.keeps a;have d:∀v∈vs,E7 (h1.push (seqObj "list" vs.toArray 0)) v=E7 s.heap v:=λv F=>by
  obtain⟨i,hi⟩:=List.mem_iff_getElem?.mp F;obtain⟨r,b,its,_,B,k,l⟩:=T.2 i v hi;rw[B,C6 k l,C6 (a b its k) l]
 show wpAny _ _ _ _ _ {s with heap:=h1.push (seqObj "list" vs.toArray 0)};refine wpAny_bind (wpAny_holding (wpAny_call_entry slot_list_sort ⟨_,f,rfl⟩ entry_list_sort (Z8 (s:={s with heap:=h1.push (seqObj "list" vs.toArray 0)}) f T2 hw z λos hp hs=>⟨_,rfl,?_⟩) (args_list_sort _)));obtain⟨c,hc⟩:=Z6 (out:=os.toArray) f;refine wpAny_pure ⟨_,rfl,h h1 _ os c k1 (λb o e=>?_) hc hp (hs.imp_of_mem λ{x y} p C j=>?_)⟩
 .exact U5 b o (Nat.ne_of_lt (Heap.lt_size e)) (Heap.get?_push_of_some _ e)
 .rw[<-d _ (hp.mem_iff.mp p),<-d _ (hp.mem_iff.mp C)];exact j
end
def a4A(K:PySem.W.Frag):RL:=λxs H Q=>∃(p:Addr) (ys:List V) (rss:LLI),xs=[.ref p]/\(SqL K H p ys∨SqT K H p ys)/\Its H ys rss/\(∀r∈rss,0<r.length) /\
 ∀l zs tss,H l=none->Its H zs tss->tss.Perm rss->C9 tss->zs.Perm ys->Q (.ref l) (upd H l (.lst zs))
theorem W9:∀{ys:List V}{us:List Value}{rss:LLI},Vals ys us->ys.length=rss.length->∃T:List (Value×V×List Int),T.map (·.1)=us/\T.map (·.2.1)=ys/\T.map (·.2.2)=rss/\∀(i:Nat) t,T[i]?=some t->RelV t.2.1 t.1/\ys[i]?=some t.2.1/\rss[i]?=some t.2.2
 |[],us,rss,r,e=>by
  cases r;cases rss with
  |nil=>exact⟨[],rfl,rfl,rfl,λi t h=>by simp at h⟩
  |cons _ _=>cases e
 |y::ys,us,rss,r,e=>by
  cases r with
  |cons h hs =>
   cases rss with
   |nil=>cases e
   |cons r rss =>
    obtain⟨T,b,f,c,d⟩:=W9 hs (by simpa using e);refine⟨(_,y,r)::T,by rw[List.map_cons,b],by rw[List.map_cons,f],by rw[List.map_cons,c],λi t a=>?_⟩;cases i with
    |zero=>cases a;exact⟨h,rfl,rfl⟩
    |succ i=>exact d i t a
theorem N8:∀{T:List (Value×V×List Int)},(∀t∈T,RelV t.2.1 t.1)->Vals (T.map (·.2.1)) (T.map (·.1))
 |[],_=>.nil
 |t::T,h=>.cons (h t List.mem_cons_self) (N8 λu a=>h u (List.mem_cons_of_mem _ a))
section
variable {X:Cx}
theorem a7q(K:PySem.W.Frag)(hK:X.K=K:=by rfl):D0 X (.builtin "sorted") (a4A K):=by
 subst hK;intro pins s σ H xs us Q I Y h;obtain⟨p,ys,rss,rfl,B,hI,hw,q⟩:=h;obtain⟨u,rfl,ru⟩:=Y.one;cases ru;obtain⟨its,ri,j,z⟩:∃its:List Value,Vals ys its/\ys.length<=sizeLine/\∀(A':Around) (L:Value->Shared->Prop) (C:List Value->Shared->Prop),(∀h1:Heap,(∀b o,s.heap.get? b=some o->h1.get? b=some o)->C its {s with heap:=h1})->wpAny (model X.prog X.w) A' (collect (.ref p)) C L s:=by
  rcases B with B|B
  .obtain⟨its,d,pl,j⟩:=I.list B;obtain⟨o,F,hc,n,hd⟩:=pl.isList;have r:=d.length;exact⟨its,d,j,λA' L C k=>wpAny_collect_seq p (.inl rfl) F hc hd (λh' E=>k h' E) (by simp only[List.size_toArray];omega)⟩
  .obtain⟨its,d,pl,j⟩:=I.tuple B;obtain⟨o,F,hc,n,hd⟩:=pl;have r:=d.length;exact⟨its,d,j,λA' L C k=>wpAny_collect_seq p (.inr rfl) F hc hd (λh' E=>k h' E) (by simp only[List.size_toArray];omega)⟩
 have hl:=ri.length;have TT:=a2M I hI ri;obtain⟨T,t1,t2,t3,P⟩:=W9 ri hI.1;refine a1H z TT hw (by omega) λh1 h' os c k1 k2 e hp hs=>?_;obtain⟨g,p1,p2⟩:=M4 (f:=λt:Value×V×List Int=>t.1) hp t1.symm;have N:=I.kept (t':=s.toks) k1;have D:∀t∈g,RelV t.2.1 t.1/\IT H t.2.1 t.2.2/\E7 s.heap t.1=t.2.2:=λt J=>by
  obtain⟨i,hi⟩:=List.mem_iff_getElem?.mp (p1.mem_iff.mp J);obtain⟨r1,r2,M⟩:=P i t hi;obtain⟨row,O,q2⟩:=hI.2 i _ r2;rw[M]at O;cases O;have Z:its[i]?=some t.1:=by rw[<-t1,List.getElem?_map,hi];rfl
  obtain⟨d,b,its',f1,f2,f3,f4⟩:=TT.2 i _ Z;rw[M]at f1;cases f1;exact⟨r1,q2,by rw[f2];exact C6 f3 f4⟩
 have m:(g.map (·.2.1)).Perm ys:=by rw[<-t2];exact p1.map _
 have U:Vals (g.map (·.2.1)) os:=by rw[<-p2];exact N8 λt J=>(D t J).1
 have R:=N.laid (h':=h') (a:=h1.objs.size) (o:=.lst (g.map (·.2.1))) (t':=s.toks) k2 (Nat.le_refl _) ⟨by rw[m.length_eq];exact j,os,c,U,e⟩;refine⟨.ref h1.objs.size,_,R,rfl,q _ _ (g.map (·.2.2)) (N.hok.fresh (Nat.le_refl _)) ⟨by rw[List.length_map,List.length_map],λi v l=>?_⟩ (by rw[<-t3];exact p1.map _) ?_ m⟩
 .rw[List.getElem?_map]at l⊢;cases G:g[i]? with
  |none=>rw[G]at l;cases l
  |some t =>
   rw[G]at l;cases l;exact⟨t.2.2,rfl,(D t (List.mem_of_getElem? G)).2.1⟩
 .unfold C9;rw[List.pairwise_map];rw[<-p2,List.pairwise_map]at hs;refine hs.imp_of_mem λ{x y} S hy A=>?_;rw[(D x S).2.2,(D y hy).2.2]at A;exact A
theorem R0(K:PySem.W.Frag){e:Expr}{t:TA}{p pos:Pos}(d:Gl X "sorted")(b:X.mg "sorted"=none)(ha:JA X [e] t)(c:X.K=K:=by rfl)(f:starEach [e] X.env=(false,eval e X.env)::starEach [] X.env:=by rfl)(a:(backTo pos (starEach [] X.env)).any (·.1)=false:=by rfl):JE X (.Call (.Name "sorted" p) [e] [] pos) (tCB (a4A K) t):=⟨E9 (a7q K c) d b a1f ha.h (by decide) (by decide) f a⟩
end
def DRaw(h:Heap)(d:Addr)(es:Array DictEntry)(ep:Nat):Prop:=∃ob:Obj,h.get? d=some ob/\ob.ExactDict/\ob.data=.dict es ep
theorem DRaw.typ{s:Shared}{d:Addr}{es:Array DictEntry}{ep:Nat}(x:DRaw s.heap d es ep):s.TypeIs (.ref d) "dict":=by
 obtain⟨a,b,c,_⟩:=x;exact⟨a,b,c.1⟩
theorem DRaw.lt{h:Heap}{d:Addr}{es:Array DictEntry}{ep:Nat}(x:DRaw h d es ep):d<h.objs.size:=by
 obtain⟨b,a,_⟩:=x;exact Heap.lt_size a
theorem DRaw.to{h h':Heap}{d:Addr}{es:Array DictEntry}{ep:Nat}(x:DRaw h d es ep)(k:∀a,h.get? d=some a->h'.get? d=some a):DRaw h' d es ep:=by
 obtain⟨a,b,q⟩:=x;exact⟨a,k _ b,q⟩
section
variable {prog:Program}{w:World}{A:Around}{E:Value->Shared->Prop}{s:Shared}{it d:Addr}{i ep:Nat}{es:Array DictEntry}
theorem a5D{Q:Value->Shared->Prop}(hs:(d==sysModules)=false)(D:DRaw s.heap d es ep)
  (q:Q (.ref s.heap.objs.size) {s with heap:=s.heap.push {cls:=.type "dict_keyiterator",data:=.fields #[.ref d,.int 0 0,.int es.size 0,.int ep 0]}}):wpAny (model prog w) A (pyIter (.ref d)) Q E s:=by
 have ty:=D.typ;obtain⟨c,a,_,b⟩:=D;refine wpAny_pyIter_slot ty PySem.F.slot_dict_iter (wpAny_call_entry PySem.F.slot_dict_iter ty PySem.F.entry_dict_iter ?body (PySem.F.args_dict_iter_1 _))
 case body =>
  unfold Builtin.«dict.__iter__» Builtin.Dict.dictSlotNone;refine wpAny_bind (wpAny_bind (wpAny_notOrdered_dict ty (wpAny_pure ?_)));show wpAny _ _ (Builtin.Dict.showsAll d>>=λ_=>_) _ _ _;unfold Builtin.Dict.showsAll;rw[if_neg (λz=>by rw[hs]at z;cases z)];refine wpAny_bind (wpAny_pure (wpAny_bind (wpAny_dictEntries a b (wpAny_bind (wpAny_dictEpoch a b ?_)))));refine wpAny_bind (wpAny_newObj_type (wpAny_pure ⟨_,rfl,"dict_keyiterator",_,⟨_,Heap.get?_push_size _ rfl,rfl⟩,PySem.F.slot_dict_keyiterator_next.lookup,?_⟩));exact q
theorem a5E{Q:Option Value->Shared->Prop}(I:s.heap.IsKeyIter it d i es.size ep)(D:DRaw s.heap d es ep)(hi:i<es.size)
  (q:∀h',h'.IsKeyIter it d (i+1) es.size ep->Heap.SameBut it s.heap h'->Q (some es[i].key) {s with heap:=h'}):wpAny (model prog w) A (pyNext (.ref it)) Q E s:=by
 obtain⟨h,f1,f2,a⟩:=id I;obtain⟨od,e,g,f⟩:=D;unfold pyNext;refine wpAny_bind (wpAny_attempt (wpAny_callSpecial?_slot (name:=Str.ofString "__next__") I.typeIs PySem.F.slot_dict_keyiterator_next (wpAny_call_entry PySem.F.slot_dict_keyiterator_next I.typeIs PySem.F.entry_dict_keyiterator_next ?body (PySem.F.args_dict_keyiterator_next_1 _))))
 case body =>
  refine wpAny_bind (wpAny_pure (wpAny_bind (wpAny_bind ?_)))
  first|refine wpAny_bind (wpAny_typeNameOfWhole_keyiter I.typeIs (wpAny_pure ?_))|refine wpAny_bind (wpAny_typeNameOf_keyiter I.typeIs (wpAny_pure ?_))
  refine wpAny_bind (wpAny_fieldsOf f1 a ?_);rw[show Builtin.Dict_items.ownsTuple "dict_keyiterator"=false by decide,if_neg Bool.false_ne_true];show wpAny _ _ (if (Value.ref d==Value.none)=true then _ else _) _ _ _;have b:¬((Value.ref d==Value.none)=true):=Bool.false_ne_true;rw[if_neg b];refine wpAny_bind (wpAny_pure (wpAny_bind (wpAny_dictEntries e f ?_)));rw[if_neg (by simp)];refine wpAny_bind (wpAny_pure (wpAny_bind (wpAny_dictEpoch e f ?_)));rw[if_neg (by simp)];refine wpAny_pure ?_;dsimp only;rw[show(if (i:Int)<0 then(none:Option DictEntry)else es[(i:Int).toNat]?)=some es[i] by rw[if_neg (by omega),Int.toNat_natCast,Array.getElem?_eq_getElem hi]];dsimp only;refine wpAny_bind ?_
  first|refine wpAny_bind (wpAny_typeNameOfWhole_keyiter I.typeIs (wpAny_pure ?_))|refine wpAny_bind (wpAny_typeNameOf_keyiter I.typeIs (wpAny_pure ?_))
  refine wpAny_bind (wpAny_isOneOf_keyiter I.typeIs ?_);show wpAny _ _ (setField (.ref it) 1 (rawInt ((i:Int)+1))>>=λ_=>_) _ _ _;have c:(s.heap.update it (Obj.mapFields λz=>z.setIfInBounds 1 (rawInt ((i:Int)+1)))).IsKeyIter it d (i+1) es.size ep :=
   ⟨_,Heap.get?_update_self _ f1 (Obj.isFreed_of_fields (Obj.data_mapFields a _)),(Obj.cls_mapFields ..).trans f2,by rw[Obj.data_mapFields a];simp[rawInt]⟩
  refine wpAny_bind (wpAny_setField f1 a (by simp) (wpAny_bind (wpAny_holding ?_)));refine wpAny_bind (wpAny_isOneOf_keyiter (s:={s with heap:=s.heap.update it (Obj.mapFields λz=>z.setIfInBounds 1 (rawInt ((i:Int)+1)))}) c.typeIs ?_);exact wpAny_pure (wpAny_pure ⟨_,rfl,wpAny_pure (q _ c (Heap.SameBut.update ..))⟩)
theorem a7Y{Q:Option Value->Shared->Prop}(h:A.handled=none)(I:s.heap.IsKeyIter it d i es.size ep)(D:DRaw s.heap d es ep)(hi:es.size<=i)
  (q:∀h',Heap.ExtBut it s.heap h'->Q none {s with heap:=h'}):wpAny (model prog w) A (pyNext (.ref it)) Q E s:=by
 obtain⟨k,f1,f2,e⟩:=id I;obtain⟨od,f,j,g⟩:=D;unfold pyNext;refine wpAny_bind (wpAny_attempt (wpAny_callSpecial?_slot (name:=Str.ofString "__next__") I.typeIs PySem.F.slot_dict_keyiterator_next (wpAny_call_entry PySem.F.slot_dict_keyiterator_next I.typeIs PySem.F.entry_dict_keyiterator_next ?body (PySem.F.args_dict_keyiterator_next_1 _))))
 case body =>
  refine wpAny_bind (wpAny_pure (wpAny_bind (wpAny_bind ?_)))
  first|refine wpAny_bind (wpAny_typeNameOfWhole_keyiter I.typeIs (wpAny_pure ?_))|refine wpAny_bind (wpAny_typeNameOf_keyiter I.typeIs (wpAny_pure ?_))
  refine wpAny_bind (wpAny_fieldsOf f1 e ?_);rw[show Builtin.Dict_items.ownsTuple "dict_keyiterator"=false by decide,if_neg Bool.false_ne_true];show wpAny _ _ (if (Value.ref d==Value.none)=true then _ else _) _ _ _;have c:¬((Value.ref d==Value.none)=true):=Bool.false_ne_true;rw[if_neg c];refine wpAny_bind (wpAny_pure (wpAny_bind (wpAny_dictEntries f g ?_)));rw[if_neg (by simp)];refine wpAny_bind (wpAny_pure (wpAny_bind (wpAny_dictEpoch f g ?_)));rw[if_neg (by simp)];refine wpAny_pure ?_;dsimp only;rw[show(if (i:Int)<0 then(none:Option DictEntry)else es[(i:Int).toNat]?)=none by rw[if_neg (by omega),Int.toNat_natCast,Array.getElem?_eq_none hi]];dsimp only;refine wpAny_bind ?_
  first|refine wpAny_bind (wpAny_typeNameOfWhole_keyiter I.typeIs (wpAny_pure ?_))|refine wpAny_bind (wpAny_typeNameOf_keyiter I.typeIs (wpAny_pure ?_))
  show wpAny _ _ (setField (.ref it) 0 .none>>=λ_=>_) _ _ _;refine wpAny_bind (wpAny_setField f1 e (by simp) ?_);show wpAny _ _ (newExc (.type "StopIteration") []>>=λ_=>_) _ _ _;refine wpAny_bind ?_;simp only[newExc,newTuple];refine wpAny_bind (wpAny_newObj_type ?_ (by size_fits));refine wpAny_bind (m:=firstArgMember _ _) (wpAny_of_eq (a:=Value.none) (by first|rfl | (simp only[firstArgMember];rfl)) ?_);refine wpAny_newObj_type ?_ (by size_fits);simp only[raiseNew];refine wpAny_bind (wpAny_handled ?_);rw[show A.in1.handled=none from h];refine wpAny_bind (wpAny_pure (wpAny_throw ?_));refine wpAny_bind (wpAny_isInstance (T:="StopIteration") (b:=true) ⟨_,Heap.get?_push_size _ rfl,rfl⟩ isSubtype_stop ?_);exact wpAny_pure (q _ (((Heap.SameBut.update ..).extBut.push _).push _))
theorem a8U(k:A.handled=none)(J d:Addr)(c:d≠J)(es:Array DictEntry)(ep:Nat) :
  Walks prog w A J [J,d] [J] es.size (λi v=>∃e,es[i]?=some e/\v=e.key) (λi h=>h.IsKeyIter J d i es.size ep/\DRaw h d es ep) where
 sub:=λb hb=>by rw[List.mem_singleton.mp hb];exact List.mem_cons_self
 frame:=λi h h' st f=>⟨st.1.at λo e=>f J List.mem_cons_self o e,st.2.to λo e=>f d (List.mem_cons_of_mem _ List.mem_cons_self) o e⟩
 item:=λi s Q E hi st a=>a5E st.1 st.2 hi λh' g sb=>a _ h' s.toks ⟨es[i],by simp[hi],rfl⟩ ⟨g,st.2.to λo e=>sb.extBut d o c e⟩ λb o hb e=>sb.extBut b o (λz=>hb (by rw[z];exact List.mem_cons_self)) e
 done:=λs Q E st a=>a7Y k st.1 st.2 (Nat.le_refl _) λh' j=>a h' s.toks λb o hb e=>j b o (λz=>hb (by rw[z];exact List.mem_cons_self)) e
 self:=λ_ _ _ _ st a=>wpAny_pyIter_keyiter st.1 a
theorem b3d(hs:(d==sysModules)=false)(es:Array DictEntry)(ep:Nat):KdlSrc prog w "dict" d d es.size (λi v=>∃e,es[i]?=some e/\v=e.key) (λh=>DRaw h d es ep) where
 type:=λ_ D=>D.typ
 there:=λ_ D=>⟨D.lt,D.lt⟩
 keep:=λ_ _ D b=>D.to λo e=>b d (.inl rfl) o e
 notList:=by decide
 notTuple:=by decide
 hint:=λ_ _ _ _ D q=>kdl_hint_dict D.typ q
 iter:=λ_ _ a D=>⟨_,_,λ_ _ q=>a5D hs D q,a8U a _ d (Nat.ne_of_lt D.lt) es ep,⟨⟨_,Heap.get?_push_size _ rfl,rfl,rfl⟩,D.to λo e=>Heap.get?_push_of_some _ e⟩⟩
end
section
variable {prog:Program}{w:World}{A:Around}{E:Value->Shared->Prop}{s:Shared}
theorem U8{x:Value}{vs:List Value}{rss:LLI}{Q:Value->Shared->Prop}(g:∀(u:Value->Shared->Prop) (n:List Value->Shared->Prop),(∀(h1:Heap) (tk:Nat),(∀b o,s.heap.get? b=some o->h1.get? b=some o)->n vs {s with heap:=h1,toks:=tk})->wpAny (model prog w) A.in1 (collect x) n u s)
  (T:TupsAre s.heap vs rss) (hw:∀r∈rss,0<r.length) (z:vs.length<=sizeLine)
  (h:∀(h1 h':Heap) (os:List Value) (c tk:Nat),(∀b o,s.heap.get? b=some o->h1.get? b=some o)->(∀b o,h1.get? b=some o->h'.get? b=some o)->h'.get? h1.objs.size=some (seqObj "list" os.toArray c)->os.Perm vs->os.Pairwise (λx y=>HT.lexLt (E7 s.heap y) (E7 s.heap x)=false)->Q (.ref h1.objs.size) {s with heap:=h',toks:=tk}) :
  wpAny (model prog w) A (call (.builtin "sorted") [x]) Q E s:=by
 refine Calls.call_function_entry kind_sorted plain_sorted entry_sorted (args_sorted1 _) ?_;unfold Builtin.«sorted»;refine wpAny_bind (m:=checkCount "sorted" 1 1 _) (wpAny_pure ?_);refine wpAny_bind (g _ _ λh1 tk k1=>?_);refine wpAny_bind (wpAny_newList ?_ (by omega));have f:(h1.push (seqObj "list" vs.toArray 0)).get? h1.objs.size=some (seqObj "list" vs.toArray 0):=Heap.get?_push_size _ rfl;have a:∀b its,IsTup s.heap b its->IsTup (h1.push (seqObj "list" vs.toArray 0)) b its:=λb its ⟨o,t,q⟩=>⟨o,Heap.get?_push_of_some _ (k1 _ _ t),q⟩;have T2:=T.keeps a;have d:∀v∈vs,E7 (h1.push (seqObj "list" vs.toArray 0)) v=E7 s.heap v:=λv D=>by
  obtain⟨i,hi⟩:=List.mem_iff_getElem?.mp D;obtain⟨r,b,its,_,B,k,l⟩:=T.2 i v hi;rw[B,C6 k l,C6 (a b its k) l]
 show wpAny _ _ _ _ _ {s with heap:=h1.push (seqObj "list" vs.toArray 0),toks:=tk};refine wpAny_bind (wpAny_holding (wpAny_call_entry slot_list_sort ⟨_,f,rfl⟩ entry_list_sort (Z8 (s:={s with heap:=h1.push (seqObj "list" vs.toArray 0),toks:=tk}) f T2 hw z λos hp hs=>⟨_,rfl,?_⟩) (args_list_sort _)));obtain⟨c,hc⟩:=Z6 (out:=os.toArray) f;refine wpAny_pure ⟨_,rfl,h h1 _ os c tk k1 (λb o e=>?_) hc hp (hs.imp_of_mem λ{x y} p C j=>?_)⟩
 .exact U5 b o (Nat.ne_of_lt (Heap.lt_size e)) (Heap.get?_push_of_some _ e)
 .rw[<-d _ (hp.mem_iff.mp p),<-d _ (hp.mem_iff.mp C)];exact j
end
noncomputable def IK(rss:LLI):List (List Key):=rss.map λr=>r.map Sum.inl
def a6M:RL:=λxs H Q=>∃(d:Addr) (kvs:List (List Key×V)) (rss:LLI),xs=[.ref d]/\H d=some (.dT kvs)/\kvs.map (·.1)=IK rss/\(∀r∈rss,0<r.length) /\
 ∀l zs tss,H l=none->Its H zs tss->tss.Perm rss->C9 tss->Q (.ref l) (upd H l (.lst zs))
theorem b3W{H:Hp}:∀{kvs:List (List Key×V)}{xs:List (List Key×Addr×Value)}{rss:LLI},KT H kvs xs->kvs.map (·.1)=IK rss->Its H (xs.map λx=>V.ref x.2.1) rss/\xs.length=rss.length:=by
 intro kvs xs rss r e;induction r generalizing rss with
 |nil =>
  cases rss with
  |nil=>exact⟨⟨rfl,λi v z=>by simp at z⟩,rfl⟩
  |cons _ _=>cases e
 |@cons p q ps qs h _ ih =>
  cases rss with
  |nil=>cases e
  |cons r rss =>
   injection e with a e2
   obtain⟨h1,h2⟩:=ih e2;refine⟨⟨by rw[List.length_map,List.length_cons,List.length_cons,h2],λi v c=>?_⟩,by rw[List.length_cons,List.length_cons,h2]⟩;cases i with
   |zero =>
    cases c;refine⟨r,rfl,q.2.1,rfl,?_⟩;have b:=h.2.1;have a:p.1=r.map Sum.inl:=a;rw[a,List.map_map]at b;exact b
   |succ i=>exact h1.2 i v c
theorem a0L{α:Type}(f:α->Addr):∀xs:List α,Vals (xs.map λx=>V.ref (f x)) (xs.map λx=>Value.ref (f x))
 |[]=>.nil
 |x::xs=>.cons rfl (a0L f xs)
section
variable {X:Cx}
theorem a7p(hc:X.calm=true):D0 X (.builtin "sorted") a6M:=by
 intro pins s σ H xs us Q I rv h;obtain⟨d,kvs,rss,rfl,hd,Z,hw,q⟩:=h;obtain⟨u,rfl,ru⟩:=rv.one;cases ru;obtain⟨hz,p,g,S,ob,es,ep,e1,B,Y,R,U⟩:=I.hok _ _ hd;obtain⟨hI,N⟩:=b3W S Z;have a0:kvs.length=g.length:=Paired.length S;have E:es.size=g.length:=by rw[<-Array.length_toList,R,List.length_map]
 have D:DRaw s.heap d es ep:=⟨ob,e1,B,Y⟩;have ri:Vals (g.map λx=>V.ref x.2.1) (g.map λx=>Value.ref x.2.1):=a0L (λx:List Key×Addr×Value=>x.2.1) g;have z:∀(E':Value->Shared->Prop) (J:List Value->Shared->Prop),(∀(h1:Heap) (tk:Nat),(∀b o,s.heap.get? b=some o->h1.get? b=some o)->J (g.map λx=>Value.ref x.2.1) {s with heap:=h1,toks:=tk})->wpAny (model X.prog X.w) X.A.in1 (collect (.ref d)) J E' s:=λE' J k=>by
  refine kdu_collect (b3d p es ep) (show X.A.in1.handled=none from I.ok.hd hc) D (by omega) λh' tk m kp l=>?_;have:m.toList=g.map λx=>Value.ref x.2.1:=by
   refine List.ext_getElem? λi=>?_;rw[Array.getElem?_toList,List.getElem?_map];by_cases hi:i<g.length
   .have hia:i<m.size:=by rw[l.1,E];exact hi
    obtain⟨e,he,K⟩:=l.2 i m[i] (by simp[hia]);have j:es.toList[i]?=some e:=by rw[Array.getElem?_toList];exact he
    rw[R,List.getElem?_map,List.getElem?_eq_getElem hi]at j;injection j with j
    rw[Array.getElem?_eq_getElem hia,List.getElem?_eq_getElem hi,K,<-j];rfl
   .rw[Array.getElem?_eq_none (by rw[l.1,E];omega),List.getElem?_eq_none (by omega)];rfl
  rw[this];exact k h' tk kp
 have hl:=ri.length;have TT:=a2M I hI ri;obtain⟨T,t1,t2,t3,t4⟩:=W9 ri hI.1;refine U8 z TT hw (by rw[List.length_map];omega) λh1 h' os c tk k1 k2 e hp hs=>?_;obtain⟨n,p1,p2⟩:=M4 (f:=λt:Value×V×List Int=>t.1) hp t1.symm;have P:=I.kept (t':=tk) k1;have F:∀t∈n,RelV t.2.1 t.1/\IT H t.2.1 t.2.2/\E7 s.heap t.1=t.2.2:=λt L=>by
  obtain⟨i,hi⟩:=List.mem_iff_getElem?.mp (p1.mem_iff.mp L);obtain⟨r1,r2,M⟩:=t4 i t hi;obtain⟨row,W,q2⟩:=hI.2 i _ r2;rw[M]at W;cases W;have U:(g.map λx=>Value.ref x.2.1)[i]?=some t.1:=by rw[<-t1,List.getElem?_map,hi];rfl
  obtain⟨r',b,its',f1,f2,f3,f4⟩:=TT.2 i _ U;rw[M]at f1;cases f1;exact⟨r1,q2,by rw[f2];exact C6 f3 f4⟩
 have G:(n.map (·.2.1)).length<=sizeLine:=by
  have O:=(p1.map (λt:Value×V×List Int=>t.2.1)).length_eq;rw[t2]at O;simp only[List.length_map]at O⊢;omega
 have K:Vals (n.map (·.2.1)) os:=by rw[<-p2];exact N8 λt L=>(F t L).1
 have I2:=P.laid (h':=h') (a:=h1.objs.size) (o:=.lst (n.map (·.2.1))) (t':=tk) k2 (Nat.le_refl _) ⟨G,os,c,K,e⟩;refine⟨.ref h1.objs.size,_,I2,rfl,q _ _ (n.map (·.2.2)) (P.hok.fresh (Nat.le_refl _)) ⟨by rw[List.length_map,List.length_map],λi v r=>?_⟩ (by rw[<-t3];exact p1.map _) ?_⟩
 .rw[List.getElem?_map]at r⊢;cases B:n[i]? with
  |none=>rw[B]at r;cases r
  |some t =>
   rw[B]at r;cases r;exact⟨t.2.2,rfl,(F t (List.mem_of_getElem? B)).2.1⟩
 .unfold C9;rw[List.pairwise_map];rw[<-p2,List.pairwise_map]at hs;refine hs.imp_of_mem λ{x y} hx hy C=>?_;rw[(F x hx).2.2,(F y hy).2.2]at C;exact C
end
end L2
namespace L2
open PySem PySem.Spec PyProof.Rows
variable {X:Cx}
end L2
namespace L2
open PySem PySem.Spec PyProof.Rows PySem.W
section
variable {prog:Program}{w:World}{A:Around}{E:Value->Shared->Prop}{s:Shared}{d:Addr}{ep:Nat}{es:Array DictEntry}
theorem b3e{Q:Value->Shared->Prop}(hs:(d==sysModules)=false)(D:DRaw s.heap d es ep)(e:(es.size:Int)<2 ^ 63)
  (q:Q (.int es.size (s.toks+1)) {s with toks:=s.toks+1+1}):wpAny (model prog w) A (call (.builtin "len") [.ref d]) Q E s:=by
 refine Calls.call_function_entry kind_len plain_len entry_len (args_len1 _) ?_;have ty:=D.typ;obtain⟨c,a,_,b⟩:=D;unfold Builtin.«len»;refine wpAny_bind (m:=oneArg "len" _) (wpAny_pure ?_);refine wpAny_bind (m:=callSpecial? (.ref d) (Str.ofString "__len__")) (wpAny_callSpecial?_slot (name:=Str.ofString "__len__") ty PySem.F.slot_dict_len (wpAny_call_entry PySem.F.slot_dict_len ty PySem.F.entry_dict_len ?body (PySem.F.args_dict_len_1 _)))
 case body =>
  show wpAny _ _ (dictSize d>>=λn=>_) _ _ _;unfold dictSize;refine wpAny_bind (wpAny_bind (wpAny_dictEntries a b (wpAny_pure ?_)));show wpAny _ _ (Builtin.Dict.pendingCount d>>=λn=>_) _ _ _;refine wpAny_bind (wpAny_pendingCount_other hs (wpAny_ret_mkInt ?_));show wpAny _ _ _ _ _ {s with toks:=s.toks+1};rw[show((es.size:Nat):Int)+((0:Nat):Int)=(es.size:Int) by simp];refine wpAny_bind (wpAny_holding (wpAny_pure (wpAny_bind (wpAny_letGo ?_))));show wpAny _ _ (if ((es.size:Nat):Int)<0 then _ else _) _ _ _;rw[if_neg (by omega)];show wpAny _ _ (if ((es.size:Nat):Int) ≥ 2 ^ 63 then _ else _) _ _ _;rw[if_neg (by omega)];exact wpAny_bind (wpAny_mkInt (wpAny_pure ⟨_,rfl,q⟩))
end
def b4M:RL:=λxs H Q=>∃(a:Addr) (kvs:List (List Key×V)),xs=[V.ref a]/\H a=some (.dT kvs)/\Q (.int kvs.length) H
section
variable {X:Cx}
theorem a9P:D0 X (.builtin "len") b4M:=by
 intro pins s σ H xs us Q I r h;obtain⟨a,kvs,rfl,ha,q⟩:=h;obtain⟨u,rfl,o⟩:=r.one;cases o;obtain⟨j,b,f,k,g,es,ep,i,n,l,m,p⟩:=I.hok _ _ ha;have e:kvs.length=f.length:=Paired.length k;have c:es.size=f.length:=by rw[<-Array.length_toList,m,List.length_map]
 have d:=j;rw[sizeLine_eq]at d;refine b3e b ⟨g,i,n,l⟩ (by omega) ?_;rw[c,<-e];exact⟨.int kvs.length,H,I.tok _,⟨_,rfl⟩,q⟩
variable {a b c e o i value:Expr}{es rest:List Expr}{ta tb tc te to td ty tv:TE}{t:TA}{pos p apos cpos p2 pos' tpos:Pos}
theorem b4b(b:Gl X "len")(d:X.mg "len"=none)(ha:JA X [e] t)(c:starEach [e] X.env=(false,eval e X.env)::starEach [] X.env:=by rfl)(a:(backTo pos (starEach [] X.env)).any (·.1)=false:=by rfl):JE X (.Call (.Name "len" p) [e] [] pos) (tCB b4M t):=⟨E9 a9P b d b2w ha.h (by decide) (by decide) c a⟩
theorem b1O(b:Gl X "sorted")(d:X.mg "sorted"=none)(ha:JA X [e] t)(hc:X.calm=true:=by rfl)(c:starEach [e] X.env=(false,eval e X.env)::starEach [] X.env:=by rfl)(a:(backTo pos (starEach [] X.env)).any (·.1)=false:=by rfl):JE X (.Call (.Name "sorted" p) [e] [] pos) (tCB a6M t):=⟨E9 (a7p hc) b d a1f ha.h (by decide) (by decide) c a⟩
theorem b4c:JE X (.Dict [] [] pos) b0m:=⟨b1i⟩
theorem b6n(c:X.A.units+60<cLine)(hi:JE X i ty)(a:JE X o td)(b:behindInMarks .In o=false):JE X (.Compare i [.In] [o] pos) (b7d ty td):=⟨b5O (b5Q (by omega) hi.h a.h) b⟩
theorem a9v(c:X.A.units+60<cLine)(hi:JE X i ty)(a:JE X o td)(b:behindInMarks .NotIn o=false):JT X (.Compare i [.NotIn] [o] pos) (tB (a7H ty td)):=⟨b5w (a9e (by omega) hi.h a.h) b⟩
theorem b3X(c:X.A.units+60<cLine)(b:JE X o td)(hi:JE X i ty)(a:JE X value tv)(hs:swapsWith value (some (.Subscript o i pos')) pos.line X.env=pure false:=by rfl):JS X (.Assign [.Subscript o i pos'] value pos) (b4H td ty tv):=⟨b3l (by omega) b.h hi.h a.h hs⟩
theorem L5(K:PySem.W.Frag){f:Str}(a:JE X e ta)(b:X.K=K:=by rfl)(hb:attributeBase e f X.env (eval e X.env)=eval e X.env:=by rfl):JE X (.Attribute e f pos) (b7c K ta f):=by
 subst b;exact⟨b5N a.h hb⟩
theorem S9(K:PySem.W.Frag){f:Str}(ha:JE X o ta)(a:JE X value tv)(b:X.K=K:=by rfl)(hs:swapsWith value (some (.Attribute o f pos')) pos.line X.env=pure false:=by rfl):JS X (.Assign [.Attribute o f pos'] value pos) (b7e K ta tv f):=by
 subst b;exact⟨b5A ha.h a.h hs⟩
end
structure MethOk(P:Program)(w:World)(K:PySem.W.Frag)(mg:Str->Option Value)(base:Heap)(C:Addr)(m:Str)(k:Nat)(ps:List Str)(sp:Sp):Prop where
 ex:∃f fd,Meth K C m f/\Binds K fd ps []/\FnOk P w K mg base CX0 k f fd ps sp
structure MethAt(K:PySem.W.Frag)(C:Addr)(m qual:Str)(st:Stmt)(ps:List Str):Prop where
 ex:∃f fd,Meth K C m f/\Fun K m qual st f fd/\Binds K fd ps []
structure MakeOk(P:Program)(w:World)(K:PySem.W.Frag)(mg:Str->Option Value)(base:Heap)(x:Str)(C:Addr)(k:Nat)(ps:List Str)(sp:Sp):Prop where
 ex:∃f fd,mg x=some (.ref C)/\Mk K C f/\Binds K fd ps []/\FnOk P w K mg base CX0 k f fd ps sp
section
variable {P:Program}{w:World}{K:PySem.W.Frag}{mg:Str->Option Value}{base:Heap}{C:Addr}{m qual:Str}{st:Stmt}{N ps:List Str}{k:Nat}{sp:Sp}
theorem MethAt.fnJ(F:MethAt K C m qual st ps)(S:FnScope N ps (A1 st))(len:∀vs H Q E,sp vs H Q E->vs.length=ps.length)
  (b:∀(a:Value) (f:Addr) (A:Around) (outer:List Env) (s:Shared) (H:Hp) (vs:List V) (Q:VK) (E:XK),Room k (A.deeper (envOfC qual (A1 st) s.heap.objs.size f a))->sp vs H Q E ->
   ∃t,JB (V0 CX0 P w K mg base N qual (A1 st) f a A outer s H E).nox (E1 st) t/\t {nx:=λ_ H'=>Q .non H',rt:=Q} (start N vs) H):MethOk P w K mg base C m (k+1) ps sp:=by
 obtain⟨f,fd,h1,h2,c⟩:=F.ex;exact⟨f,fd,h1,c,h2.okJ S len λa=>b a f⟩
theorem MethOk.make{x:Str}(O:MethOk P w K mg base C "__init__" k ps sp)(a:mg x=some (.ref C))(d:PySem.W.makesIn K C=true)(c:PySem.W.keepIn K (.ref C)=true):MakeOk P w K mg base x C k ps sp:=by
 obtain⟨f,fd,h1,h2,b⟩:=O.ex;exact⟨f,fd,a,⟨d,h1.at_,h1.fn,c⟩,h2,b⟩
end
section
variable {X:Cx}{C:Addr}{m x:Str}{k:Nat}{ps:List Str}{sp:Sp}{o e:Expr}{es:List Expr}{ta:TE}{t:TA}{pos apos p:Pos}
theorem b6t{pl:Sem Bool}(O:MethOk X.prog X.w X.K X.mg X.base C m k ps sp)(c:Cls X.K C)(d:Room k X.A)(l:JE X o ta)(ha:JA X (e::es) t)
  (b:starEach (e::es) X.env=(false,eval e X.env)::starEach es X.env:=by rfl) (a:(backTo pos (starEach es X.env)).any (·.1)=false:=by rfl)
  (i:eval (.Call (.Attribute o m apos) (e::es) [] pos) X.env=(eval o X.env>>=λj=>standAt apos.atName>>=λ_=>holding [j] (getMethod j m pl)>>=λp=>match p with | (f,first)=>callWith pos f first (backTo pos (starEach (e::es) X.env)) (backToKw pos (keywordEach [] X.env))):=by rfl) :
  JE X (.Call (.Attribute o m apos) (e::es) [] pos) (a1m C m sp [] E0 ta t):=by
 obtain⟨f,fd,h1,h2,g⟩:=O.ex;exact⟨b3z (pl:=pl) l.h c h1 g d h2 .nil a8d ha.h b a i⟩
theorem a4M{pl:Sem Bool}(O:MethOk X.prog X.w X.K X.mg X.base C m k ps sp)(c:Cls X.K C)(a:Room k X.A)(g:JE X o ta)
  (d:eval (.Call (.Attribute o m apos) [] [] pos) X.env=(eval o X.env>>=λe=>standAt apos.atName>>=λ_=>holding [e] (getMethod e m pl)>>=λp=>match p with | (f,first)=>callWith pos f first (backTo pos (starEach [] X.env)) (backToKw pos (keywordEach [] X.env))):=by rfl) :
  JE X (.Call (.Attribute o m apos) [] [] pos) (a1m C m sp [] E0 ta R9):=by
 obtain⟨f,fd,h1,h2,b⟩:=O.ex;exact⟨b1g (pl:=pl) g.h c h1 b a h2 .nil a8d d⟩
theorem b6u(O:MakeOk X.prog X.w X.K X.mg X.base x C k ps sp)(c:Room (k+1) X.A)(g:Gl X x)(ha:JA X (e::es) t)(b:(x==("__debug__" : Str))=false:=by decide)
  (i:starEach (e::es) X.env=(false,eval e X.env)::starEach es X.env:=by rfl) (a:(backTo pos (starEach es X.env)).any (·.1)=false:=by rfl) :
  JE X (.Call (.Name x p) (e::es) [] pos) (b4D C sp [] E0 t):=by
 obtain⟨f,fd,h0,h1,h2,d⟩:=O.ex;exact⟨b3A h1 d c g h0 h2 .nil a8d ha.h b i a⟩
end
end L2
namespace L2
open PySem PySem.Spec PyProof.Rows
theorem a2C{K:PySem.W.Frag}{src:List (Option Nat)}{σ caps:St}{Q:VK}{a:Addr}{vs:List V}{rss:LLI}{H:Hp}{k:TT}(t:List Int->Bool)(hl:vs.length<=sizeLine)(b:∀H',Same H H'->SqL K H' a vs)(hI:Its H vs rss)(c:B1 src σ=none::caps)
  (g:∀v r H1 j,r∈rss->IT H1 v r->Same H H1->(∀H2,Same H1 H2->j (t r) H2)->k (some v::caps) H1 j) (hd:∀H1 p l,Same H H1->H1 p=none->Its H1 l (rss.filter t)->Q (.ref p) (upd H1 p (.lst l))):E5 src (A9 0) k (L8 0) σ Q (Itl K a) H:=by
 refine R5 (xs:=vs) (by omega) (λi ys H'=>Same H H'/\Its H' ys ((rss.take i).filter t)) ⟨Same.refl H,by simpa using Its.nil⟩ (λi ys H' _ h=>⟨b H' h.1,by rw[h.2.1];exact Nat.le_trans (List.length_filter_le _ _) (List.length_take_le _ _)⟩) ?_ ?_
 .rintro i x ys H' hx ⟨s,hy⟩;obtain⟨r,m,f,d⟩:=hI.mem hx;show Sub _ ((B1 src σ).set 0 (some x))/\_;rw[c];refine⟨Sub.one,g x r H' _ m (d.same s) s λH2 s2=>?_⟩;rw[List.take_add_one,f];cases e:t r with
  |true=>exact⟨_,rfl,s.trans s2,by simpa[e]using(hy.same s2).snoc ((d.same s).same s2)⟩
  |false=>exact⟨s.trans s2,by simpa[e]using hy.same s2⟩
 .rintro ys H' ⟨s,hy⟩ p hp;rw[hI.1,List.take_length]at hy;exact hd H' p ys s hp hy
theorem a3u{K:PySem.W.Frag}{src:List (Option Nat)}{σ caps:St}{Q:VK}{a:Addr}{vs:List V}{rss:LLI}{H:Hp}{k:TT}(t:List Int->Bool)(hl:vs.length<=sizeLine)(b:∀H',Same H H'->SqT K H' a vs)(hI:Its H vs rss)(c:B1 src σ=none::caps)
  (g:∀v r H1 j,r∈rss->IT H1 v r->Same H H1->(∀H2,Same H1 H2->j (t r) H2)->k (some v::caps) H1 j) (hd:∀H1 p l,Same H H1->H1 p=none->Its H1 l (rss.filter t)->Q (.ref p) (upd H1 p (.lst l))):E5 src (A9 0) k (L8 0) σ Q (Itt K a) H:=by
 refine R1 (xs:=vs) (by omega) (λi ys H'=>Same H H'/\Its H' ys ((rss.take i).filter t)) ⟨Same.refl H,by simpa using Its.nil⟩ (λi ys H' _ h=>⟨b H' h.1,by rw[h.2.1];exact Nat.le_trans (List.length_filter_le _ _) (List.length_take_le _ _)⟩) ?_ ?_
 .rintro i x ys H' hx ⟨s,hy⟩;obtain⟨r,m,f,d⟩:=hI.mem hx;show Sub _ ((B1 src σ).set 0 (some x))/\_;rw[c];refine⟨Sub.one,g x r H' _ m (d.same s) s λH2 s2=>?_⟩;rw[List.take_add_one,f];cases e:t r with
  |true=>exact⟨_,rfl,s.trans s2,by simpa[e]using(hy.same s2).snoc ((d.same s).same s2)⟩
  |false=>exact⟨s.trans s2,by simpa[e]using hy.same s2⟩
 .rintro ys H' ⟨s,hy⟩ p hp;rw[hI.1,List.take_length]at hy;exact hd H' p ys s hp hy
def Prs(H:Hp)(ps:List V)(f:Nat->List Int)(js:List Nat):Prop:=ps.length=js.length/\∀(i:Nat) (q:V),ps[i]?=some q->∃(j:Nat) (b:Addr) (v:V),js[i]?=some j/\q=.ref b/\H b=some (.tup [.int j,v])/\IT H v (f j)
theorem Prs.same{H H':Hp}{ps:List V}{f:Nat->List Int}{a:List Nat}(h:Prs H ps f a)(s:Same H H'):Prs H' ps f a :=
 ⟨h.1,λi q e=>let ⟨j,b,v,e1,e2,e3,e4⟩:=h.2 i q e;⟨j,b,v,e1,e2,s _ _ e3,e4.same s⟩⟩
theorem Prs.nil{H:Hp}{f:Nat->List Int}:Prs H [] f []:=⟨rfl,λi q e=>by simp at e⟩
theorem Prs.snoc{H:Hp}{ps:List V}{f:Nat->List Int}{c:List Nat}{j:Nat}{b:Addr}{v:V}(h:Prs H ps f c)(hb:H b=some (.tup [.int j,v]))(m:IT H v (f j)):Prs H (ps++[.ref b]) f (c++[j]):=by
 refine⟨by rw[List.length_append,List.length_append,h.1];rfl,λi q e=>?_⟩;rcases Nat.lt_or_ge i ps.length with hi|hi
 .rw[List.getElem?_append_left hi]at e;obtain⟨k,b',d,g,l⟩:=h.2 i q e;exact⟨k,b',d,by rw[List.getElem?_append_left (by rw[<-h.1];exact hi)];exact g,l⟩
 .rw[List.getElem?_append_right hi]at e;have a:i-ps.length=0:=by
   rcases Nat.eq_zero_or_pos (i-ps.length)with z|z
   .exact z
   .rw[List.getElem?_eq_none (by simp;omega)]at e;cases e
  rw[a]at e;cases e;exact⟨j,b,v,by rw[List.getElem?_append_right (by rw[<-h.1];exact hi),<-h.1,a];rfl,rfl,hb,m⟩
section
variable {X:Cx}{k:Nat}{ps:List Str}{sp:Sp}{x y:Str}{p pos cpos pos' ip sp':Pos}{e:Expr}{es:List Expr}{t:TA}{i:Nat}{z:Int}{jj:Nat}
end
end L2
namespace L2
open PySem PySem.Spec PyProof.Rows PySem.W
def Itd(d:Addr)(ob:Obj)(kvs:List (List Key×V)):It:=⟨λi H=>H d=some (.frz ob (.dT kvs))/\i<kvs.length,λi H v H'=>H'=H/\∃p a,kvs[i]?=some p/\v=.ref a/\H a=some (.tup (p.1.map kV)),λi H=>H d=some (.frz ob (.dT kvs))/\kvs.length<=i⟩
theorem a9f{α β:Type}{F:α->β->Prop}{l1:List α}{l2:List β}(r:Paired F l1 l2):∀{i:Nat}{a:α},l1[i]?=some a->∃b,l2[i]?=some b/\F a b:=by
 induction r with
 |nil=>intro i a e;simp at e
 |cons h _ ih =>
  intro i a e;cases i with
  |zero=>cases e;exact⟨_,rfl,h⟩
  |succ i=>exact ih e
theorem a6v{P:Program}{w:World}{K:PySem.W.Frag}{tg:Expr}(d it:Addr)(a:Obj)(es:Array DictEntry)(ep:Nat)(kvs:List (List Key×V))(C:a.ExactDict)(hd:a.data=.dict es ep)(T:es.size=kvs.length):Turn P w K tg (Itd d a kvs) [it] it (λi h=>h.IsKeyIter it d i es.size ep) where
 mem:=by simp
 obj:=λi h st b hb=>by
  have e:b=it:=by simpa using hb
  subst e;obtain⟨o,e,c,d⟩:=st;exact⟨o,e,λv z=>by rw[d]at z;cases z⟩
 keep:=λi h h' st k=>st.at λo e=>k it (by simp) o e
 item:=by
  intro X y hw u hc i pins s σ H E I hf st n;subst y hw u;obtain⟨f,hi⟩:=n;obtain⟨l,S,B,Z,G,r,L,J,M,q2,j,A,U⟩:=(show ObjOk X.prog X.w H s.heap d (.frz a (.dT kvs))from I.hok d _ f);have O:r=a:=Option.some.inj (M.symm.trans l);rw[O,hd]at j;injection j with j _
  obtain⟨m,f1,f2,x,t,p⟩:=hf it (by simp);have g:i<es.size:=by omega
  refine a5E st ⟨a,l,C,hd⟩ g λh' st' sb=>?_;have F:Inv X pins σ H {s with heap:=h'}:=I.turned (t':=s.toks) (λb o hb e=>sb.extBut b o hb e) m f1 x t p;obtain⟨o,e,c,dd⟩:=id st';obtain⟨q,N,r1,R,Y⟩:=a9f G (List.getElem?_eq_getElem hi);have Q:es[i].key=.ref q.2.1:=by
   have h1:es.toList[i]?=some es[i]:=by simp[g]
   rw[<-j]at A;rw[A,List.getElem?_map,N]at h1;injection h1 with h1
   rw[<-h1];rfl
  exact⟨_,rfl,a8o (s:={s with heap:=h'}) e c dd (by decide) ⟨.ref q.2.1,H,F,by rw[Q];rfl,⟨rfl,_,_,List.getElem?_eq_getElem hi,rfl,R⟩,st',λb hb=>(hf b hb).1⟩⟩
 done:=by
  intro X y hw u hc i pins s σ H E I hf st n;subst y hw u;obtain⟨f,hi⟩:=n;obtain⟨l,_⟩:=(show ObjOk X.prog X.w H s.heap d (.frz a (.dT kvs))from I.hok d _ f);obtain⟨m,f1,f2,x,t,p⟩:=hf it (by simp);exact a7Y (I.ok.hd hc) st ⟨a,l,C,hd⟩ (by omega) λh' D=>⟨rfl,I.turned (t':=s.toks) (λb o hb e=>D b o hb e) m f1 x t p⟩
 self:=λ_ _ _ _ _ st h=>wpAny_pyIter_keyiter st h
def b4Z(tl:TE):TI:=λσ H R=>tl σ H λx H1=>∃d kvs,x=.ref d/\H1 d=some (.dT kvs)/\∀ob,R (Itd d ob kvs) (upd H1 d (.frz ob (.dT kvs)))
section
variable {X:Cx}{tg:Expr}
theorem b3v{l:Expr}{tl:TE}(hl:PE X l tl):PI X tg l (b4Z tl):=by
 intro pins s σ H R I h;refine thn (hl pins s σ H _ I h) λv s1 ⟨x,H1,r,D,y⟩=>?_;obtain⟨d,kvs,rfl,hd,q⟩:=y;cases D;obtain⟨A,c,n,u,f,es,ep,g,m,i,t,C⟩:=(show ObjOk X.prog X.w H1 s1.heap d (.dT kvs)from r.hok _ _ hd);have p:kvs.length=n.length:=Paired.length u;have B:es.size=kvs.length:=by rw[p,<-Array.length_toList,t,List.length_map]
 have j:KT (upd H1 d (.frz f (.dT kvs))) kvs n:=Paired.imp' (λa b ⟨z1,z2,z3⟩=>⟨z1,by rw[A2 (K9 z2 hd (by intro z;cases z))];exact z2,z3⟩) u;have k:Inv X pins σ (upd H1 d (.frz f (.dT kvs))) s1:=r.write (x:=d) (e:=d) (t':=s1.toks) (by rw[hd];trivial) (.inl rfl) (λ_ _ _ q=>q) ⟨_,g⟩ ⟨g,A,c,n,j,f,es,ep,g,m,i,t,C⟩;refine a5D c ⟨f,g,m,i⟩ ?_;refine⟨s1.heap.objs.size,[s1.heap.objs.size],_,_,_,rfl,k.kept (t':=s1.toks) λb o e=>Heap.get?_push_of_some _ e,a6v d _ f es ep kvs m i B,⟨_,Heap.get?_push_size _ rfl,rfl,rfl⟩,λb hb=>?_,q f⟩;have e:b=s1.heap.objs.size:=by simpa using hb
 subst e;exact k.fpOk (Nat.le_refl _) (k.hok.fresh (Nat.le_refl _))
theorem b3Y{l:Expr}{tl:TE}(hl:JE X l tl):JI X tg l (b4Z tl):=⟨b3v hl.h⟩
end
theorem a9I{src:List (Option Nat)}{g:TG}{l:TT}{te:TE}{σ:St}{Q:VK}{d:Addr}{j:Obj}{kvs:List (List Key×V)}{H1:Hp}(t:kvs.length<=sizeLine)(c:Nat->List V->Hp->Prop)(h0:c 0 [] H1)
  (h:∀i ys H,i<=kvs.length->c i ys H->H d=some (.frz j (.dT kvs))/\ys.length<=i)
  (hs:∀i p a ys H,kvs[i]?=some p->H a=some (.tup (p.1.map kV))->c i ys H->g (.ref a) (B1 src σ) H λσ2 H2=>Sub (B1 src σ) σ2/\l σ2 H2 λb k=>if b=true then te σ2 k λv s=>c (i+1) (ys++[v]) s else c (i+1) ys k)
  (hd:∀ys H,c kvs.length ys H->∀p,H p=none->Q (.ref p) (upd H p (.lst ys))):E5 src g l te σ Q (Itd d j kvs) H1 :=
 a0C kvs.length c h0 (λi ys H hi p=>by
   obtain⟨f,m⟩:=h i ys H (Nat.le_of_lt hi) p;refine⟨⟨f,hi⟩,by omega,λx H' y=>?_⟩;obtain⟨e,n,a,q,o,r⟩:=y;subst e o;exact hs i n a ys _ q r p)
  λys H p=>by
   obtain⟨f,m⟩:=h _ ys H (Nat.le_refl _) p;exact⟨⟨f,Nat.le_refl _⟩,by omega,hd ys H p⟩
theorem b7C{kvs:List (List Key×V)}{rss:LLI}{i:Nat}{p:List Key×V}(b:kvs.map (·.1)=IK rss)(e:kvs[i]?=some p):∃r,rss[i]?=some r/\p.1=r.map Sum.inl:=by
 have h1:(kvs.map (·.1))[i]?=some p.1:=by rw[List.getElem?_map,e];rfl
 rw[b,IK,List.getElem?_map]at h1;cases a:rss[i]? with
 |none=>rw[a]at h1;cases h1
 |some r=>rw[a]at h1;injection h1 with h1;exact⟨r,rfl,h1.symm⟩
theorem b1U{kvs:List (List Key×V)}{rss:LLI}(a:kvs.map (·.1)=IK rss):kvs.length=rss.length:=by
 have:=congrArg List.length a;simpa[IK]using this
theorem a9F{src:List (Option Nat)}{σ caps:St}{Q:VK}{d:Addr}{m:Obj}{kvs:List (List Key×V)}{rss:LLI}{H:Hp}{te:TE}(f:List Int->V)(hl:kvs.length<=sizeLine)(e:H d=some (.frz m (.dT kvs)))(n:kvs.map (·.1)=IK rss)(b:B1 src σ=none::caps)
  (j:∀v r H1 o,r∈rss->IT H1 v r->Same H H1->(∀H2,Same H1 H2->o (f r) H2)->te (some v::caps) H1 o) (hd:∀H1 p,Same H H1->H1 p=none->Q (.ref p) (upd H1 p (.lst (rss.map f)))):E5 src (A9 0) K7 te σ Q (Itd d m kvs) H:=by
 have l:=b1U n;refine a9I (by omega) (λi ys H'=>Same H H'/\ys=(rss.take i).map f) ⟨Same.refl H,by simp⟩ (λi ys H' _ h=>⟨h.1 _ _ e,by rw[h.2,List.length_map];exact List.length_take_le _ _⟩) ?_ ?_
 .rintro i p a ys H' hx ha ⟨s,rfl⟩;obtain⟨r,c,k⟩:=b7C n hx;have q:=List.mem_of_getElem? c;have g:IT H' (.ref a) r:=⟨a,rfl,by rw[ha,k,List.map_map];rfl⟩;show Sub _ ((B1 src σ).set 0 (some (.ref a)))/\_;rw[b];refine⟨Sub.one,(j _ r H' _ q g s λH2 s2=>⟨s.trans s2,?_⟩)⟩;rw[List.take_add_one,c,List.map_append];rfl
 .rintro ys H' ⟨s,rfl⟩ p hp;rw[l,List.take_length];exact hd H' p s hp
section
variable {X:Cx}
end
section
variable {X:Cx}{o e:Expr}{es:List Expr}{to:TE}{t:TA}{apos cpos:Pos}
end
theorem a8Z{κ:Type}[DecidableEq κ]{kvs:List (κ×V)}{k:κ}(v:V)(h:k∈kvs.map (·.1)):(Z4 kvs k v).map (·.1)=kvs.map (·.1):=by
 unfold Z4;obtain⟨p,hp,rfl⟩:=List.mem_map.mp h;rw[if_pos (List.any_eq_true.mpr ⟨p,hp,decide_eq_true rfl⟩),List.map_map];refine List.map_congr_left λq _=>?_;show(if q.1=p.1 then(q.1,v)else q).1=q.1;split<;>rfl
section
variable {X:Cx}{k:Nat}{ps:List Str}{sp:Sp}{x:Str}{p pos cpos:Pos}{e:Expr}{es:List Expr}{t:TA}
end
end L2
namespace L2
open PySem PySem.Spec PyProof.Rows
section
variable {prog:Program}{w:World}{A:Around}{E:Value->Shared->Prop}{s:Shared}
end
section
variable {X:Cx}{pos:Pos}
end
section
variable {X:Cx}{es:List Expr}{pos:Pos}
end
end L2
namespace L2
open PySem PySem.Spec PyProof.Rows PySem.W
section
variable {X:Cx}
end
section
variable {X:Cx}{e:Expr}{es:List Expr}{t:TA}{p pos:Pos}
end
section
variable {X:Cx}{k v:Expr}{tk tv:TE}{pos:Pos}
end
end L2
section
open PySem PyProof.Rows
end
namespace L2
open PySem PySem.Spec PyProof.Rows
section
variable {X:Cx}
variable {o e:Expr}{es:List Expr}{to:TE}{t:TA}{pos apos cpos:Pos}
end
end L2
namespace L2
theorem b7K{α:Type}{us:List α}(h:us.length=0):us=[]:=List.length_eq_zero_iff.mp h
theorem a2D{α:Type}{us:List α}(h:us.length=1):∃a,us=[a]:=by
 cases us with
 |nil=>cases h
 |cons a us=>exact⟨a,by rw[b7K (us:=us) (Nat.succ.inj h)]⟩
theorem Q9{α:Type}{us:List α}(h:us.length=2):∃a b,us=[a,b]:=by
 cases us with
 |nil=>cases h
 |cons a us=>obtain⟨b,e⟩:=a2D (us:=us) (Nat.succ.inj h);exact⟨a,b,by rw[e]⟩
theorem a4I{α:Type}{us:List α}(h:us.length=3):∃a b c,us=[a,b,c]:=by
 cases us with
 |nil=>cases h
 |cons a us=>obtain⟨b,c,e⟩:=Q9 (us:=us) (Nat.succ.inj h);exact⟨a,b,c,by rw[e]⟩
theorem b7t{α:Type}{us:List α}(h:us.length=4):∃a b c d,us=[a,b,c,d]:=by
 cases us with
 |nil=>cases h
 |cons a us=>obtain⟨b,c,d,e⟩:=a4I (us:=us) (Nat.succ.inj h);exact⟨a,b,c,d,by rw[e]⟩
theorem b7s{α:Type}{us:List α}(h:us.length=5):∃a b c d e,us=[a,b,c,d,e]:=by
 cases us with
 |nil=>cases h
 |cons a us=>obtain⟨b,c,d,e,q⟩:=b7t (us:=us) (Nat.succ.inj h);exact⟨a,b,c,d,e,by rw[q]⟩
section
open PySem PySem.Spec PyProof.Rows PySem.W
abbrev FnL(K:PySem.W.Frag)(f:Addr)(nm qn:Str)(st:Stmt)(oc:Value)(od:Option Addr)(sl:Array (Option Value))(kV dc pm:Value)(an:Option Addr)(cd ct:Value):Prop:=K.lookup f=some ⟨oc,od,.func (PySem.W.fnOf nm qn (P0 st) (E1 st) (A1 st) .none kV dc pm an cd ct),sl⟩
variable {K:PySem.W.Frag}{h:Heap}{mg:Str->Option Value}{x qn:Str}{st:Stmt}{f:Addr}{od an:Option Addr}{sl:Array (Option Value)}{oc kV dc pm cd ct:Value}{C:Addr}{m:Str}
theorem B9(X:K.In h)(G:h.Ns mainGlobals mg)(a:nsIn K mainGlobals x=some (some (.ref f)))(l:FnL K f x x st oc od sl kV dc pm an cd ct)(c:codeIn K cd x=true)(k:keepIn K (.ref f)=true){ps:List Str}
  (hb:∀(kV d pm:Value) (an:Option Addr) (b ct:Value) (us:List Value),us.length=ps.length->bindArgs (fnOf x x (P0 st) (E1 st) (A1 st) .none kV d pm an b ct) ⟨us,[]⟩=pure (ps.zip us)):FunAt K mg x st ps:=⟨f,_,mg_of X G a,a2R (st:=st) l c k,(a2R (st:=st) l c k).binds hb⟩
theorem a2B(a:findIn K (.ref C) m=some (some (.ref f)))(i:isFn K (.ref f)=true)(l:FnL K f m qn st oc od sl kV dc pm an cd ct)(c:codeIn K cd qn=true)(k:keepIn K (.ref f)=true){ps:List Str}
  (hb:∀(kV d pm:Value) (an:Option Addr) (b ct:Value) (us:List Value),us.length=ps.length->bindArgs (fnOf m qn (P0 st) (E1 st) (A1 st) .none kV d pm an b ct) ⟨us,[]⟩=pure (ps.zip us)):MethAt K C m qn st ps:=⟨f,_,⟨a,i,k⟩,a2R (st:=st) l c k,(a2R (st:=st) l c k).binds hb⟩
end
section
open PySem PySem.Spec PyProof.Rows PySem.W
variable {K:PySem.W.Frag}{h:Heap}{mg:Str->Option Value}{x nm qn:Str}{C N:Addr}{bs bm sub bmB above:List Value}{hd ab:Bool}{sn:List Str}{col:Option Bool}{dd:Option Addr}{k0 k1 k2 k3 k5:Option Value}{newId:String}
theorem b5S(X:K.In h)(c:mg x=some (.ref C))(b:K.lookup C=some (excClassObj nm qn C N bs bm hd sn sub ab col dd k0 k1 k2 k3 k5 newId))(tx:tailIn K bmB bm=true)(ok:nsOkIn K N=true)(a:nsIn K N "__init__"=some none):OwnCls x C bmB newId mg h :=
 ⟨c,bm,N,nm,qn,bs,hd,sn,sub,ab,col,dd,k0,k1,k2,k3,k5,_,X _ _ b,.of_isNs (isNs_of_in X ok),nsMap_none_of_in X ok a,tail_of_in X tx⟩
theorem b4p(b:K.lookup C=some (excClassObj nm qn C N bs bm hd sn sub ab col dd k0 k1 k2 k3 k5 newId))(a:bm.contains (.type "BaseException")=true):ClsX K C [] :=
 ⟨nm,qn,N,bs,bm,hd,sn,sub,ab,col,dd,k0,k1,k2,k3,k5,newId,b,a,λ_ z=>nomatch z⟩
end
inductive Ex1{α0:Type}(p:α0->Prop):Prop
 |mk (a0:α0) (h:p a0):Ex1 p
inductive Ex2{α0 α1:Type}(p:α0->α1->Prop):Prop
 |mk (a0:α0) (a1:α1) (h:p a0 a1):Ex2 p
inductive Ex3{α0 α1 α2:Type}(p:α0->α1->α2->Prop):Prop
 |mk (a0:α0) (a1:α1) (a2:α2) (h:p a0 a1 a2):Ex3 p
inductive Ex4{α0 α1 α2 α3:Type}(p:α0->α1->α2->α3->Prop):Prop
 |mk (a0:α0) (a1:α1) (a2:α2) (a3:α3) (h:p a0 a1 a2 a3):Ex4 p
inductive Ex5{α0 α1 α2 α3 α4:Type}(p:α0->α1->α2->α3->α4->Prop):Prop
 |mk (a0:α0) (a1:α1) (a2:α2) (a3:α3) (a4:α4) (h:p a0 a1 a2 a3 a4):Ex5 p
inductive Ex9{α0 α1 α2 α3 α4 α5 α6 α7 α8:Type}(p:α0->α1->α2->α3->α4->α5->α6->α7->α8->Prop):Prop
 |mk (a0:α0) (a1:α1) (a2:α2) (a3:α3) (a4:α4) (a5:α5) (a6:α6) (a7:α7) (a8:α8) (h:p a0 a1 a2 a3 a4 a5 a6 a7 a8):Ex9 p
inductive An2(a0 a1:Prop):Prop
 |mk (h0:a0) (h1:a1):An2 a0 a1
inductive An3(a0 a1 a2:Prop):Prop
 |mk (h0:a0) (h1:a1) (h2:a2):An3 a0 a1 a2
inductive An4(a0 a1 a2 a3:Prop):Prop
 |mk (h0:a0) (h1:a1) (h2:a2) (h3:a3):An4 a0 a1 a2 a3
inductive An5(a0 a1 a2 a3 a4:Prop):Prop
 |mk (h0:a0) (h1:a1) (h2:a2) (h3:a3) (h4:a4):An5 a0 a1 a2 a3 a4
inductive An6(a0 a1 a2 a3 a4 a5:Prop):Prop
 |mk (h0:a0) (h1:a1) (h2:a2) (h3:a3) (h4:a4) (h5:a5):An6 a0 a1 a2 a3 a4 a5
inductive An7(a0 a1 a2 a3 a4 a5 a6:Prop):Prop
 |mk (h0:a0) (h1:a1) (h2:a2) (h3:a3) (h4:a4) (h5:a5) (h6:a6):An7 a0 a1 a2 a3 a4 a5 a6
inductive An8(a0 a1 a2 a3 a4 a5 a6 a7:Prop):Prop
 |mk (h0:a0) (h1:a1) (h2:a2) (h3:a3) (h4:a4) (h5:a5) (h6:a6) (h7:a7):An8 a0 a1 a2 a3 a4 a5 a6 a7
inductive An9(a0 a1 a2 a3 a4 a5 a6 a7 a8:Prop):Prop
 |mk (h0:a0) (h1:a1) (h2:a2) (h3:a3) (h4:a4) (h5:a5) (h6:a6) (h7:a7) (h8:a8):An9 a0 a1 a2 a3 a4 a5 a6 a7 a8
inductive An10(a0 a1 a2 a3 a4 a5 a6 a7 a8 a9:Prop):Prop
 |mk (h0:a0) (h1:a1) (h2:a2) (h3:a3) (h4:a4) (h5:a5) (h6:a6) (h7:a7) (h8:a8) (h9:a9):An10 a0 a1 a2 a3 a4 a5 a6 a7 a8 a9
end L2
namespace L2
namespace Tab
open PySem
def gI:Nat->Nat->Nat
 |0,x=>x
 |n+1,x=>5*gI n x+1
def gS:Nat->Nat
 |0=>0
 |n+1=>5*gS n+1
theorem b5a:∀n x,gI n x=5 ^ n*x+gS n
 |0,x=>by simp[gI,gS]
 |n+1,x=>by
  rw[gI,b5a n x,gS,Nat.pow_succ,Nat.mul_add,<-Nat.mul_assoc,Nat.mul_comm 5 (5 ^ n)];omega
theorem a8q:∀n,4*gS n+1=5 ^ n
 |0=>rfl
 |n+1=>by
  have:=a8q n;rw[gS,Nat.pow_succ];omega
theorem a2U:∀k,∃u,5 ^ (2 ^ k)=1+2 ^ (k+2)*(2*u+1)
 |0=>⟨0,rfl⟩
 |k+1=>by
  obtain⟨u,h⟩:=a2U k;refine⟨u+2 ^ k*(2*u+1)*(2*u+1),?_⟩;rw[Nat.pow_succ 2 k,Nat.pow_mul,h,Nat.pow_two];have a:2 ^ (k+1+2)=8*2 ^ k:=by rw[Nat.pow_add,Nat.pow_succ];omega
  have c:2 ^ (k+2)=4*2 ^ k:=by rw[Nat.pow_add,Nat.mul_comm]
  rw[a,c];generalize 2 ^ k=b
  grind
theorem b6B(k:Nat):∃u,gS (2 ^ k)=2 ^ k*(2*u+1):=by
 obtain⟨u,h⟩:=a2U k;refine⟨u,?_⟩;have:=a8q (2 ^ k);have a:2 ^ (k+2)=4*2 ^ k:=by rw[Nat.pow_add,Nat.mul_comm]
 rw[h,a,Nat.mul_assoc]at this;omega
theorem b4i(k y:Nat):gI (2 ^ k) y % 2 ^ (k+1)=(y+2 ^ k) % 2 ^ (k+1):=by
 obtain⟨u,h⟩:=a2U k;obtain⟨v,h2⟩:=b6B k;rw[b5a,h,h2];have e:(1+2 ^ (k+2)*(2*u+1))*y+2 ^ k*(2*v+1)=(y+2 ^ k)+2 ^ (k+1)*(2*(2*u+1)*y+v):=by
  have a:2 ^ (k+1)=2*2 ^ k:=by rw[Nat.pow_succ];omega
  have c:2 ^ (k+2)=4*2 ^ k:=by rw[Nat.pow_add,Nat.mul_comm]
  rw[a,c];generalize 2 ^ k=b
  grind
 rw[e,Nat.add_mul_mod_self_left]
def fI(M:Nat):Nat->Nat->Nat
 |0,x=>x
 |n+1,x=>(fI M n x*5+1) % M
theorem b2f(M:Nat)(x:Nat)(a:x<M):∀n,fI M n x=gI n x % M
 |0=>(Nat.mod_eq_of_lt a).symm
 |n+1=>by
  rw[fI,b2f M x a n,gI,Nat.mul_comm,Nat.add_mod,Nat.mul_mod,Nat.mod_mod,<-Nat.mul_mod,<-Nat.add_mod]
theorem b2c(m:Nat):∀n x,gI (n+m) x=gI n (gI m x)
 |0,x=>by rw[Nat.zero_add];rfl
 |n+1,x=>by rw[Nat.add_right_comm,gI,b2c m n x,gI]
theorem b2b:∀(k x s:Nat),∃n,n<2 ^ k/\gI n x % 2 ^ k=s % 2 ^ k
 |0,x,s=>⟨0,by decide,by rw[Nat.pow_zero,Nat.mod_one,Nat.mod_one]⟩
 |k+1,x,s=>by
  obtain⟨n,i,h⟩:=b2b k x s;have d:2 ^ (k+1)=2*2 ^ k:=by rw[Nat.pow_succ];omega
  have hp:0<2 ^ k:=Nat.pow_pos (by decide);by_cases a:gI n x % 2 ^ (k+1)=s % 2 ^ (k+1)
  .exact⟨n,by omega,a⟩
  .refine⟨2 ^ k+n,by omega,?_⟩;rw[b2c,b4i];generalize gI n x=y at *;rw[d]at a⊢;generalize 2 ^ k=M at *;have a1:=Nat.mod_add_div y (2*M);have a2:=Nat.mod_add_div s (2*M);have g:=Nat.mod_lt y (show 0<2*M by omega);have j:=Nat.mod_lt s (show 0<2*M by omega);have b:y % M=y % (2*M) % M:=(Nat.mod_mul_left_mod y 2 M).symm;have c:s % M=s % (2*M) % M:=(Nat.mod_mul_left_mod s 2 M).symm;rw[Nat.add_mod,Nat.mod_eq_of_lt (show M<2*M by omega)];generalize y % (2*M)=p at *;generalize s % (2*M)=q at *;rw[b,c]at h;have f:p % M=if p<M then p else p-M:=by
    split
    .exact Nat.mod_eq_of_lt (by assumption)
    .rw[Nat.mod_eq_sub_mod (by omega)];exact Nat.mod_eq_of_lt (by omega)
   have e:q % M=if q<M then q else q-M:=by
    split
    .exact Nat.mod_eq_of_lt (by assumption)
    .rw[Nat.mod_eq_sub_mod (by omega)];exact Nat.mod_eq_of_lt (by omega)
   rw[f,e]at h;split at h<;>split at h
   .omega
   .rw[Nat.mod_eq_of_lt (by omega)];omega
   .rw[show p+M=p-M+2*M by omega,Nat.add_mod_right,Nat.mod_eq_of_lt (by omega)];omega
   .omega
abbrev Pr:=SetTable.Probe
noncomputable def adv(mask:Nat)(p:Pr):Pr :=
 if p.more > 0 then {p with j:=p.j+1,more:=p.more-1} else
 {p with j:=(SetTable.leap mask p.i p.perturb).1,more:=SetTable.runEnd mask (SetTable.leap mask p.i p.perturb).1-(SetTable.leap mask p.i p.perturb).1,i:=(SetTable.leap mask p.i p.perturb).1,perturb:=(SetTable.leap mask p.i p.perturb).2}
theorem b6P(t:SetTable)(p:Pr):t.advance p=adv t.mask p:=rfl
noncomputable def B6(mask:Nat)(p:Pr):Nat->Pr
 |0=>p
 |n+1=>adv mask (B6 mask p n)
theorem G3(mask:Nat)(p:Pr):∀n,B6 mask p (n+1)=B6 mask (adv mask p) n
 |0=>rfl
 |n+1=>by rw[B6,G3 mask p n];rfl
theorem a0l(mask:Nat)(p:Pr)(m:Nat):∀n,B6 mask p (m+n)=B6 mask (B6 mask p m) n
 |0=>rfl
 |n+1=>by rw[<-Nat.add_assoc,B6,a0l mask p m n];rfl
theorem a0J(mask:Nat)(p:Pr):∀n,(B6 mask p n).dummy=p.dummy
 |0=>rfl
 |n+1=>by
  rw[B6,<-a0J mask p n];unfold adv;split<;>rfl
noncomputable def a0O(mask i pt:Nat):Pr:={j:=i,more:=SetTable.runEnd mask i-i,i,perturb:=pt,dummy:=none}
noncomputable def st0(mask:Nat)(h:Int):Pr:=a0O mask (SetTable.bits h % (mask+1)) (SetTable.bits h)
theorem a0Z(mask i pt:Nat):∀c,c<=SetTable.runEnd mask i-i->B6 mask (a0O mask i pt) c={j:=i+c,more:=SetTable.runEnd mask i-i-c,i,perturb:=pt,dummy:=none}
 |0,_=>rfl
 |c+1,h=>by
  rw[B6,a0Z mask i pt c (by omega)];unfold adv;rw[if_pos (show SetTable.runEnd mask i-i-c > 0 by omega)];simp only[SetTable.Probe.mk.injEq,and_true];omega
theorem b2Y(mask i:Nat):SetTable.runEnd mask i-i<=9:=by
 unfold SetTable.runEnd;split<;>omega
theorem a5N(mask i pt:Nat):B6 mask (a0O mask i pt) (SetTable.runEnd mask i-i+1)=a0O mask (SetTable.leap mask i pt).1 (SetTable.leap mask i pt).2:=by
 rw[B6,a0Z mask i pt _ (Nat.le_refl _)];unfold adv;rw[if_neg (by show ¬SetTable.runEnd mask i-i-(SetTable.runEnd mask i-i) > 0;omega)];rfl
def M2(mask:Nat)(i pt:Nat):Nat->Nat×Nat
 |0=>(i,pt)
 |k+1=>SetTable.leap mask (M2 mask i pt k).1 (M2 mask i pt k).2
theorem b0I(mask i pt:Nat):∀k,∃n,n<=10*k/\B6 mask (a0O mask i pt) n=a0O mask (M2 mask i pt k).1 (M2 mask i pt k).2
 |0=>⟨0,Nat.le_refl _,rfl⟩
 |k+1=>by
  obtain⟨n,h1,h2⟩:=b0I mask i pt k;have:=b2Y mask (M2 mask i pt k).1;refine⟨n+(SetTable.runEnd mask (M2 mask i pt k).1-(M2 mask i pt k).1+1),by omega,?_⟩;rw[a0l,h2,a5N];rfl
theorem b0G(mask i pt:Nat):∀k,(M2 mask i pt k).2=pt / 32 ^ k
 |0=>by simp[M2]
 |k+1=>by
  rw[M2,Nat.pow_succ,<-Nat.div_div_eq_div_mul,<-b0G mask i pt k];rfl
theorem a2p(mask i pt a:Nat):∀b,M2 mask i pt (a+b)=M2 mask (M2 mask i pt a).1 (M2 mask i pt a).2 b
 |0=>rfl
 |b+1=>by rw[<-Nat.add_assoc,M2,a2p mask i pt a b];rfl
theorem a5B(mask i:Nat):∀k,M2 mask i 0 k=(fI (mask+1) k i,0)
 |0=>rfl
 |k+1=>by
  rw[M2,a5B mask i k];show((fI (mask+1) k i*5+1+0 / 32) % (mask+1),0 / 32)=_;rw[Nat.zero_div,Nat.add_zero];rfl
theorem b4r(h:Int):SetTable.bits h<2 ^ 64:=by
 unfold SetTable.bits;have h1:=Int.emod_nonneg h (show(2:Int) ^ 64≠0 by decide);have h2:=Int.emod_lt_of_pos h (show(0:Int)<2 ^ 64 by decide);omega
theorem b2Z(mask i pt:Nat)(hi:i<=mask):∀k,(M2 mask i pt k).1<=mask
 |0=>hi
 |k+1=>by
  rw[M2];exact Nat.le_of_lt_succ (Nat.mod_lt _ (Nat.succ_pos _))
theorem a5C{mask k:Nat}(a:mask+1=2 ^ k)(h:Int)(s:Nat)(hs:s<=mask):∃r,r<mask+14/\(M2 mask (SetTable.bits h % (mask+1)) (SetTable.bits h) r).1=s:=by
 have hb:=b4r h;have hi:=b2Z mask (SetTable.bits h % (mask+1)) (SetTable.bits h) (Nat.le_of_lt_succ (Nat.mod_lt _ (Nat.succ_pos _))) 13;have hp:=b0G mask (SetTable.bits h % (mask+1)) (SetTable.bits h) 13;rw[Nat.div_eq_of_lt (Nat.lt_of_lt_of_le hb (by decide))]at hp;obtain⟨n,b,e⟩:=b2b k (M2 mask (SetTable.bits h % (mask+1)) (SetTable.bits h) 13).1 s;refine⟨13+n,by omega,?_⟩;rw[<-a]at e;rw[a2p,hp,a5B];show fI _ _ _=s;rw[b2f _ _ (by omega),e];exact Nat.mod_eq_of_lt (by omega)
noncomputable def pos(mask:Nat)(h:Int)(n:Nat):Nat:=(B6 mask (st0 mask h) n).j
theorem b1a{mask k:Nat}(a:mask+1=2 ^ k)(h:Int)(s:Nat)(hs:s<=mask):∃n,n<10*SetTable.turns mask/\pos mask h n=s:=by
 obtain⟨r,c,e⟩:=a5C a h s hs;obtain⟨n,d,b⟩:=b0I mask (SetTable.bits h % (mask+1)) (SetTable.bits h) r;refine⟨n,by unfold SetTable.turns;omega,?_⟩;unfold pos st0;rw[b,<-e];rfl
theorem a3b(xs:Array Nat)(j:Nat)(c:∀a b:Nat,a<b->b<xs.size->xs.getD a 0<xs.getD b 0):∀(fuel lo hi:Nat),hi-lo<=fuel->lo<=hi->hi<=xs.size->(∀i,i<lo->xs.getD i 0<j)->(∀i,hi<=i->i<xs.size->j<=xs.getD i 0) ->
  SetTable.below.go xs j fuel lo hi<=xs.size/\(∀i,i<SetTable.below.go xs j fuel lo hi->xs.getD i 0<j)/\∀i,SetTable.below.go xs j fuel lo hi<=i->i<xs.size->j<=xs.getD i 0
 |0,lo,hi,h1,h2,h3,h4,h5=>by
  have:hi=lo:=by omega
  subst this;exact⟨h3,h4,h5⟩
 |fuel+1,lo,hi,h1,h2,h3,h4,h5=>by
  unfold SetTable.below.go;by_cases h:lo<hi
  .rw[if_pos h];have g:(lo+hi) / 2<hi/\lo<=(lo+hi) / 2:=by omega
   have f:xs.getD ((lo+hi) / 2) j=xs.getD ((lo+hi) / 2) 0:=by
    have:(lo+hi) / 2<xs.size:=by omega
    simp[Array.getD,this]
   dsimp only;rw[f];by_cases hc:xs.getD ((lo+hi) / 2) 0<j
   .rw[if_pos hc];refine a3b xs j c fuel _ _ (by omega) (by omega) h3 (λi d=>?_) h5;by_cases e:i=(lo+hi) / 2
    .rw[e];exact hc
    .exact Nat.lt_trans (c i _ (by omega) (by omega)) hc
   .rw[if_neg hc];refine a3b xs j c fuel _ _ (by omega) (by omega) (by omega) h4 (λi d hs=>?_);by_cases e:i=(lo+hi) / 2
    .rw[e];omega
    .have:=c ((lo+hi) / 2) i (by omega) hs;omega
  .rw[if_neg h];have:hi=lo:=by omega
   subst this;exact⟨h3,h4,h5⟩
def Ris(xs:Array Nat):Prop:=∀a b:Nat,a<b->b<xs.size->xs.getD a 0<xs.getD b 0
theorem G2{xs:Array Nat}(a:Ris xs)(j:Nat):SetTable.below xs j<=xs.size/\(∀i,i<SetTable.below xs j->xs.getD i 0<j)/\∀i,SetTable.below xs j<=i->i<xs.size->j<=xs.getD i 0 :=
 a3b xs j a xs.size 0 xs.size (by omega) (by omega) (Nat.le_refl _) (λi h=>absurd h (by omega)) (λi h1 h2=>absurd h2 (by omega))
theorem a0z{xs:Array Nat}{i:Nat}(h:i<xs.size):xs[i]?=some (xs.getD i 0):=by simp[Array.getD,h]
theorem a0F{xs:Array Nat}(a:Ris xs){i j:Nat}(h:xs[i]?=some j):SetTable.below xs j=i:=by
 obtain⟨d,c,b⟩:=G2 a j;have hi:i<xs.size:=(Array.getElem?_eq_some_iff.mp h).1;have e:xs.getD i 0=j:=by have:=a0z hi;rw[h]at this;injection this with this;exact this.symm
 rcases Nat.lt_trichotomy (SetTable.below xs j) i with z|z|z
 .have h1:=b _ (Nat.le_refl _) (by omega);have h2:=a _ _ z hi;omega
 .exact z
 .have:=c i z;omega
theorem a1e{xs:Array Nat}(a:Ris xs)(j:Nat):xs[SetTable.below xs j]?=some j↔j∈xs:=by
 constructor
 .intro h;exact Array.mem_of_getElem? h
 .intro h;obtain⟨i,hi⟩:=Array.mem_iff_getElem?.mp h;rw[a0F a hi];exact hi
theorem a7U{t:SetTable}(a:Ris t.place)(hd:t.dummies=#[])(j:Nat):t.slot j=if j∈t.place then .live (SetTable.below t.place j)else .empty:=by
 unfold SetTable.slot;dsimp only;by_cases h:j∈t.place
 .rw[if_pos h,if_pos];rw[(a1e a j).mpr h];simp
 .rw[if_neg h,if_neg,hd]
  .rw[if_neg];unfold SetTable.has;simp
  .intro z;exact h ((a1e a j).mp (by simpa using z))
theorem a5J{t:SetTable}(e:Ris t.place)(hd:t.dummies=#[])(a:Nat->Int)(h:Int):∀(fuel:Nat) (p:Pr),p.dummy=none->(∃n,n<fuel/\(B6 t.mask p n).j∉t.place) ->
  (∃n,(B6 t.mask p n).j∉t.place/\(∀m,m<n->(B6 t.mask p m).j∈t.place/\a (SetTable.below t.place (B6 t.mask p m).j)≠h)/\SetTable.probe.go t a h fuel p=some (.empty (B6 t.mask p n).j none)) ∨
  ∃n,(B6 t.mask p n).j∈t.place/\a (SetTable.below t.place (B6 t.mask p n).j)=h/\(∀m,m<n->(B6 t.mask p m).j∈t.place/\a (SetTable.below t.place (B6 t.mask p m).j)≠h)/\SetTable.probe.go t a h fuel p=some (.candidate (B6 t.mask p n).j (SetTable.below t.place (B6 t.mask p n).j) (B6 t.mask p (n+1)))
 |0,p,_,⟨n,hn,_⟩=>absurd hn (by omega)
 |fuel+1,p,hdm,⟨n,hn,he⟩=>by
  unfold SetTable.probe.go;rw[a7U e hd];by_cases b:p.j∈t.place
  .rw[if_pos b];dsimp only;by_cases d:a (SetTable.below t.place p.j)=h
   .right;refine⟨0,b,d,λm c=>absurd c (by omega),?_⟩;rw[if_pos (by simpa using d)];rfl
   .have hn0:n≠0:=λz=>he (by rw[z];exact b);obtain⟨n,rfl⟩:∃g,n=g+1:=⟨n-1,by omega⟩;rw[G3]at he;rw[if_neg (by simpa using d),b6P];have first:∀N,(∀m,m<N->(B6 t.mask (adv t.mask p) m).j∈t.place/\a (SetTable.below t.place (B6 t.mask (adv t.mask p) m).j)≠h)->∀m,m<N+1->(B6 t.mask p m).j∈t.place/\a (SetTable.below t.place (B6 t.mask p m).j)≠h:=λN f m c=>by
     cases m with
     |zero=>exact⟨b,d⟩
     |succ m=>rw[G3];exact f m (by omega)
    rcases a5J e hd a h fuel (adv t.mask p) (by rw[<-hdm];exact a0J t.mask p 1) ⟨n,by omega,he⟩with⟨N,h1,h2,h3⟩|⟨N,h1,h2,h3,h4⟩
    .left;exact⟨N+1,by rw[G3];exact h1,first N h2,by rw[G3];exact h3⟩
    .right;exact⟨N+1,by rw[G3];exact h1,by rw[G3];exact h2,first N h3,by rw[G3,G3];exact h4⟩
  .rw[if_neg b];left;refine⟨0,b,λm c=>absurd c (by omega),?_⟩;show some (SetTable.Met.empty p.j p.dummy)=_;rw[hdm];rfl
theorem W3{α:Type}(xs:Array α)(p:Nat)(x:α)(hp:p<=xs.size):(SetTable.insertAt xs p x).toList=xs.toList.take p++x::xs.toList.drop p:=by
 unfold SetTable.insertAt;simp only[Array.toList_append,Array.toList_push,Array.toList_extract,List.extract_eq_take_drop,List.drop_zero,Nat.sub_zero,List.append_assoc,List.singleton_append];rw[List.take_of_length_le (l:=List.drop p xs.toList) (by simp)]
theorem ris_list{xs:Array Nat}:Ris xs↔xs.toList.Pairwise (· < ·):=by
 rw[List.pairwise_iff_getElem];unfold Ris;constructor
 .intro h i j hi hj hij;have:=h i j hij (by simpa using hj);simpa[Array.getD,show i<xs.size by simpa using hi,show j<xs.size by simpa using hj]using this
 .intro h a b hab hb;have:=h a b (by simp;omega) (by simpa using hb) hab;simpa[Array.getD,show a<xs.size by omega,hb]using this
theorem a3P{xs:Array Nat}{i:Nat}(h:i<xs.toList.length):xs.getD i 0=xs.toList[i]:=by
 have h':i<xs.size:=by simpa using h
 simp[Array.getD,h']
theorem b2K{xs:Array Nat}(a:Ris xs){j x:Nat}(h:x∈xs.toList.take (SetTable.below xs j)):x<j:=by
 obtain⟨d,b,c⟩:=G2 a j;obtain⟨i,hi,rfl⟩:=List.mem_iff_getElem.mp h;rw[List.length_take]at hi;rw[List.getElem_take,<-a3P];exact b i (by omega)
theorem a8s{xs:Array Nat}(c:Ris xs){j x:Nat}(d:j∉xs)(h:x∈xs.toList.drop (SetTable.below xs j)):j<x:=by
 obtain⟨e,f,b⟩:=G2 c j;have a:x∈xs:=by simpa using List.mem_of_mem_drop h
 obtain⟨i,hi,rfl⟩:=List.mem_iff_getElem.mp h;rw[List.length_drop]at hi;rw[List.getElem_drop,<-a3P]at a⊢;have:=b (SetTable.below xs j+i) (by omega) (by simp at hi;omega);rcases Nat.lt_or_eq_of_le this with z|z
 .exact z
 .exact absurd (z ▸ a) d
theorem b3a{xs:Array Nat}(a:Ris xs){j:Nat}(c:j∉xs):Ris (SetTable.insertAt xs (SetTable.below xs j) j):=by
 rw[ris_list,W3 _ _ _ (G2 a j).1];have hp:=ris_list.mp a;rw[List.pairwise_append,List.pairwise_cons];refine⟨hp.take,⟨λy b=>a8s a c b,hp.drop⟩,λx d y b=>?_⟩;have h1:=b2K a d;rcases List.mem_cons.mp b with z|z
 .rw[z];exact h1
 .exact Nat.lt_trans h1 (a8s a c z)
theorem a4H{xs:Array Nat}{p j x:Nat}(hp:p<=xs.size):x∈SetTable.insertAt xs p j↔x=j∨x∈xs:=by
 rw[<-Array.mem_toList_iff,W3 _ _ _ hp,List.mem_append,List.mem_cons,<-Array.mem_toList_iff];constructor
 .rintro(h|h|h)
  .exact .inr (List.mem_of_mem_take h)
  .exact .inl h
  .exact .inr (List.mem_of_mem_drop h)
 .rintro(h|h)
  .exact .inr (.inl h)
  .rw[<-List.take_append_drop p xs.toList]at h;rcases List.mem_append.mp h with z|z
   .exact .inl z
   .exact .inr (.inr z)
theorem nodup_le{α:Type}[DecidableEq α]:∀(a b:List α),a.Nodup->(∀x∈a,x∈b)->a.length<=b.length
 |[],b,_,_=>Nat.zero_le _
 |x::a,b,hn,h=>by
  obtain⟨h1,h2⟩:=List.nodup_cons.mp hn;have c:=h x List.mem_cons_self;have:=nodup_le a (b.erase x) h2 λy d=>(List.mem_erase_of_ne (λz:y=x=>h1 (z ▸ d))).mpr (h y (List.mem_cons_of_mem _ d));rw[List.length_erase_of_mem c]at this;have:=List.length_pos_of_mem c;rw[List.length_cons];omega
structure TabOk{α:Type}(t:SetTable)(es:Array (Int×α)):Prop where
 size:t.place.size=es.size
 dum:t.dummies=#[]
 ris:Ris t.place
 le:∀j∈t.place,j<=t.mask
 pow:∃k,3<=k/\t.mask+1=2 ^ k
 room:es.size<=t.mask
 reach:∀(i j:Nat) (e:Int×α),t.place[i]?=some j->es[i]?=some e->∃n,pos t.mask e.1 n=j/\∀m,m<n->pos t.mask e.1 m∈t.place
theorem TabOk.free{α:Type}{t:SetTable}{es:Array (Int×α)}(h:TabOk t es)(x:Int):∃n,n<10*SetTable.turns t.mask/\pos t.mask x n∉t.place:=by
 obtain⟨k,_,e⟩:=h.pow;have:∃s,s<=t.mask/\s∉t.place:=by
  refine Classical.byContradiction λd=>?_;have a:∀s,s<t.mask+1->s∈t.place.toList:=λs hs=>by
   refine Classical.byContradiction λz=>d ⟨s,by omega,λq=>z (by simpa using q)⟩
  have:=nodup_le (List.range (t.mask+1)) t.place.toList List.nodup_range λs hs=>a s (List.mem_range.mp hs);rw[List.length_range,Array.length_toList,h.size]at this;have:=h.room;omega
 obtain⟨s,hs,f⟩:=this;obtain⟨n,b,c⟩:=b1a e x s hs;exact⟨n,b,by rw[c];exact f⟩
theorem TabOk.first{α:Type}{t:SetTable}{es:Array (Int×α)}(h:TabOk t es)(x:Int):∃N,N<10*SetTable.turns t.mask/\pos t.mask x N∉t.place/\∀m,m<N->pos t.mask x m∈t.place:=by
 obtain⟨n,c,hf⟩:=h.free x;induction n using Nat.strongRecOn with
 |ind n ih =>
  by_cases b:∃m,m<n/\pos t.mask x m∉t.place
  .obtain⟨m,a,hm2⟩:=b;exact ih m a (by omega) hm2
  .exact⟨n,c,hf,λm a=>Classical.byContradiction λz=>b ⟨m,a,z⟩⟩
theorem a8p{α:Type}{xs:Array α}{p:Nat}{x:α}(hp:p<=xs.size)(i:Nat):(SetTable.insertAt xs p x)[i]?=if i<p then xs[i]? else if i=p then some x else xs[i-1]?:=by
 rw[<-Array.getElem?_toList,W3 _ _ _ hp];by_cases h1:i<p
 .rw[if_pos h1,List.getElem?_append_left (by rw[List.length_take,Array.length_toList];omega),List.getElem?_take_of_lt h1,Array.getElem?_toList]
 .rw[if_neg h1,List.getElem?_append_right (by rw[List.length_take,Array.length_toList];omega),List.length_take,Array.length_toList,Nat.min_eq_left hp];by_cases h2:i=p
  .rw[if_pos h2,h2,Nat.sub_self];rfl
  .rw[if_neg h2];obtain⟨c,hc⟩:∃c,i-p=c+1:=⟨i-p-1,by omega⟩;rw[hc,List.getElem?_cons_succ,List.getElem?_drop,Array.getElem?_toList];congr 1;omega
theorem TabOk.add{α:Type}{t:SetTable}{es:Array (Int×α)}(h:TabOk t es){x:Int}{v:α}{N:Nat}(h1:pos t.mask x N∉t.place)(h2:∀m,m<N->pos t.mask x m∈t.place)(f:pos t.mask x N<=t.mask)(c:es.size<t.mask) :
  TabOk (t.put (pos t.mask x N)).1 (SetTable.insertAt es (t.put (pos t.mask x N)).2 (x,v)):=by
 have hb:=(G2 h.ris (pos t.mask x N)).1;have hd:(t.put (pos t.mask x N)).1.dummies=#[]:=by
  show(if SetTable.has t.dummies (pos t.mask x N)=true then _ else t.dummies)=#[];rw[h.dum,if_neg];unfold SetTable.has;simp
 have d:SetTable.below t.place (pos t.mask x N)<=es.size:=by rw[<-h.size];exact hb
 have hsz:∀{β:Type}(xs:Array β) (p:Nat) (y:β),p<=xs.size->(SetTable.insertAt xs p y).size=xs.size+1:=λxs p y hp=>by
  rw[<-Array.length_toList,W3 _ _ _ hp,List.length_append,List.length_cons,List.length_take,List.length_drop,Array.length_toList];omega
 refine⟨?_,hd,b3a h.ris h1,λj s=>?_,h.pow,?_,λi j e b a=>?_⟩
 .show(SetTable.insertAt t.place (SetTable.below t.place (pos t.mask x N)) _).size=(SetTable.insertAt es (SetTable.below t.place (pos t.mask x N)) _).size;rw[hsz _ _ _ hb,hsz _ _ _ d,h.size]
 .rcases(a4H hb).mp s with z|z
  .rw[z];exact f
  .exact h.le j z
 .show(SetTable.insertAt es (SetTable.below t.place (pos t.mask x N)) _).size<=t.mask;rw[hsz _ _ _ d];exact c
 .change (SetTable.insertAt t.place (SetTable.below t.place (pos t.mask x N)) (pos t.mask x N))[i]?=some j at b;change (SetTable.insertAt es (SetTable.below t.place (pos t.mask x N)) (x,v))[i]?=some e at a;rw[a8p hb]at b;rw[a8p d]at a;show ∃n,pos t.mask e.1 n=j/\∀m,m<n->pos t.mask e.1 m∈SetTable.insertAt t.place (SetTable.below t.place (pos t.mask x N)) (pos t.mask x N);have old:∀k,t.place[k]?=some j->es[k]?=some e->∃n,pos t.mask e.1 n=j/\∀m,m<n->pos t.mask e.1 m∈SetTable.insertAt t.place (SetTable.below t.place (pos t.mask x N)) (pos t.mask x N):=λk r q=>by
   obtain⟨n,n1,n2⟩:=h.reach k j e r q;exact⟨n,n1,λm g=>(a4H hb).mpr (.inr (n2 m g))⟩
  by_cases l:i<SetTable.below t.place (pos t.mask x N)
  .rw[if_pos l]at b a;exact old i b a
  .rw[if_neg l]at b a;by_cases o:i=SetTable.below t.place (pos t.mask x N)
   .rw[if_pos o]at b a;cases b;cases a;exact⟨N,rfl,λm g=>(a4H hb).mpr (.inr (h2 m g))⟩
   .rw[if_neg o]at b a;exact old _ b a
theorem a3E{mask i:Nat}(hi:i<=mask):SetTable.runEnd mask i<=mask:=by
 unfold SetTable.runEnd;split<;>omega
theorem b0f(mask:Nat)(p:Pr)(h:p.j+p.more<=mask):∀n,(B6 mask p n).j+(B6 mask p n).more<=mask
 |0=>h
 |n+1=>by
  have ih:=b0f mask p h n;rw[B6];unfold adv;split
  .dsimp only;omega
  .dsimp only;have h1:(SetTable.leap mask (B6 mask p n).i (B6 mask p n).perturb).1<=mask:=Nat.le_of_lt_succ (Nat.mod_lt _ (Nat.succ_pos _));have h2:=a3E h1;have a:(SetTable.leap mask (B6 mask p n).i (B6 mask p n).perturb).1<=SetTable.runEnd mask (SetTable.leap mask (B6 mask p n).i (B6 mask p n).perturb).1:=by
    unfold SetTable.runEnd;split<;>omega
   omega
theorem a0P(mask:Nat)(h:Int)(n:Nat):pos mask h n<=mask:=by
 have h1:SetTable.bits h % (mask+1)<=mask:=Nat.le_of_lt_succ (Nat.mod_lt _ (Nat.succ_pos _));have h2:=a3E h1;have a:SetTable.bits h % (mask+1)<=SetTable.runEnd mask (SetTable.bits h % (mask+1)):=by
  unfold SetTable.runEnd;split<;>omega
 have:=b0f mask (st0 mask h) (by show SetTable.bits h % (mask+1)+(SetTable.runEnd mask (SetTable.bits h % (mask+1))-SetTable.bits h % (mask+1))<=mask;omega) n;unfold pos;omega
noncomputable def fr(owner:Array (Option Nat))(j:Nat):Bool:=(owner.getD j (some 0)).isNone
theorem a8r(mask:Nat)(owner:Array (Option Nat)):∀(fuel i pt:Nat),(∃r,r<fuel/\fr owner (M2 mask i pt r).1=true) ->
  ∃n,fr owner (B6 mask (a0O mask i pt) n).j=true/\(∀m,m<n->fr owner (B6 mask (a0O mask i pt) m).j=false)/\SetTable.layClean.free mask owner fuel i pt=some (B6 mask (a0O mask i pt) n).j
 |0,_,_,⟨r,hr,_⟩=>absurd hr (by omega)
 |fuel+1,i,pt,⟨r,hr,hf⟩=>by
  unfold SetTable.layClean.free;have f:i<=SetTable.runEnd mask i:=by
   unfold SetTable.runEnd;split<;>omega
  cases e:(List.range (SetTable.runEnd mask i+1-i)).find? (λk=>(owner.getD (i+k) (some 0)).isNone)with
  |some k =>
   dsimp only;rw[List.find?_range_eq_some]at e;obtain⟨h,o,g⟩:=e;have p:=List.mem_range.mp o;refine⟨k,?_,λm b=>?_,?_⟩
   .rw[a0Z mask i pt k (by omega)];exact h
   .rw[a0Z mask i pt m (by omega)];have:=g m b;simpa[fr]using this
   .rw[a0Z mask i pt k (by omega)]
  |none =>
   dsimp only;rw[List.find?_range_eq_none]at e;have a:∀m,m<SetTable.runEnd mask i-i+1->fr owner (B6 mask (a0O mask i pt) m).j=false:=λm b=>by
    rw[a0Z mask i pt m (by omega)];have:=e m (by omega);simpa[fr]using this
   cases r with
   |zero =>
    have:=a 0 (by omega);rw[show(B6 mask (a0O mask i pt) 0).j=(M2 mask i pt 0).1 from rfl,hf]at this;cases this
   |succ r =>
    have d:fr owner (M2 mask (SetTable.leap mask i pt).1 (SetTable.leap mask i pt).2 r).1=true:=by
     rw[Nat.add_comm,a2p]at hf;exact hf
    obtain⟨n,h1,h2,l⟩:=a8r mask owner fuel (SetTable.leap mask i pt).1 (SetTable.leap mask i pt).2 ⟨r,by omega,d⟩;have key:∀m,B6 mask (a0O mask i pt) (SetTable.runEnd mask i-i+1+m)=B6 mask (a0O mask (SetTable.leap mask i pt).1 (SetTable.leap mask i pt).2) m:=λm=>by
     rw[a0l,a5N]
    refine⟨SetTable.runEnd mask i-i+1+n,by rw[key];exact h1,λm b=>?_,by rw[key];exact l⟩;by_cases c:m<SetTable.runEnd mask i-i+1
    .exact a m c
    .obtain⟨m',rfl⟩:∃m',m=SetTable.runEnd mask i-i+1+m':=⟨m-(SetTable.runEnd mask i-i+1),by omega⟩;rw[key];exact h2 m' (by omega)
structure Lay(mask:Nat)(owner:Array (Option Nat))(hs:List Int):Prop where
 size:owner.size=mask+1
 val:∀j q:Nat,owner[j]?=some (some q)->∃h,hs[q]?=some h/\∃n,pos mask h n=j/\∀m,m<n->fr owner (pos mask h m)=false
 ex:∀q,q<hs.length->∃j:Nat,owner[j]?=some (some q)
 uniq:∀j j' q:Nat,owner[j]?=some (some q)->owner[j']?=some (some q)->j=j'
theorem W4{owner:Array (Option Nat)}{mask j:Nat}(hs:owner.size=mask+1)(a:j<=mask):fr owner j=false↔∃q,owner[j]?=some (some q):=by
 have h:j<owner.size:=by omega
 unfold fr;rw[Array.getElem?_eq_getElem h,show owner.getD j (some 0)=owner[j] by simp[Array.getD,h]];cases owner[j]with
 |none=>simp
 |some q=>simp
theorem Lay.start(mask:Nat):Lay mask (Array.replicate (mask+1) none) []:=by
 refine⟨by simp,λj q h=>?_,λq h=>absurd h (by simp),λj a q h=>?_⟩<;>
 .rw[Array.getElem?_replicate]at h;split at h
  .cases h
  .cases h
theorem Lay.free{mask k:Nat}(v:mask+1=2 ^ k){owner:Array (Option Nat)}{hs:List Int}(L:Lay mask owner hs)(hl:hs.length<=mask)(h:Int):∃n,fr owner (pos mask h n)=true/\(∀m,m<n->fr owner (pos mask h m)=false)/\SetTable.layClean.free mask owner (SetTable.turns mask) (SetTable.bits h % (mask+1)) (SetTable.bits h)=some (pos mask h n):=by
 have:∃s,s<=mask/\fr owner s=true:=by
  refine Classical.byContradiction λt=>?_;have c:∀s:Nat,s<=mask->∃q,owner[s]?=some (some q):=λs hs=>by
   rw[<-W4 L.size hs];cases e:fr owner s with
   |false=>rfl
   |true=>exact absurd ⟨s,hs,e⟩ t
  have:=nodup_le ((List.range (mask+1)).map λj=>(owner.getD j none).getD 0) (List.range hs.length) ?_ ?_
  .rw[List.length_map,List.length_range,List.length_range]at this;omega
  .rw[List.nodup_iff_pairwise_ne,List.pairwise_map];refine(List.nodup_iff_pairwise_ne.mp List.nodup_range).imp_of_mem λ{a b} ha hb o e=>o ?_;obtain⟨q,d⟩:=c a (by have:=List.mem_range.mp ha;omega);obtain⟨p,f⟩:=c b (by have:=List.mem_range.mp hb;omega);have g:owner.getD a none=some q:=by rw[Array.getD_eq_getD_getElem?,d];rfl
   have u:owner.getD b none=some p:=by rw[Array.getD_eq_getD_getElem?,f];rfl
   rw[g,u]at e;change q=p at e;exact L.uniq a b q d (e ▸ f)
  .intro x hx;obtain⟨j,w,rfl⟩:=List.mem_map.mp hx;obtain⟨q,d⟩:=c j (by have:=List.mem_range.mp w;omega);obtain⟨h',h1,_⟩:=L.val j q d;have g:owner.getD j none=some q:=by rw[Array.getD_eq_getD_getElem?,d];rfl
   rw[g];exact List.mem_range.mpr (List.getElem?_eq_some_iff.mp h1).1
 obtain⟨s,l,i⟩:=this;obtain⟨r,y,e⟩:=a5C v h s l;exact a8r mask owner _ _ _ ⟨r,by unfold SetTable.turns;omega,by rw[e];exact i⟩
theorem Lay.put{mask:Nat}{owner:Array (Option Nat)}{hs:List Int}(L:Lay mask owner hs){h:Int}{n:Nat}(h1:fr owner (pos mask h n)=true)(h2:∀m,m<n->fr owner (pos mask h m)=false):Lay mask (owner.setIfInBounds (pos mask h n) (some hs.length)) (hs++[h]):=by
 have hp:pos mask h n<owner.size:=by have:=a0P mask h n;rw[L.size];omega
 have f:∀q,owner[pos mask h n]?≠some (some q):=λq z=>by
  have:=(W4 L.size (a0P mask h n)).mpr ⟨q,z⟩;rw[h1]at this;cases this
 have get:∀j:Nat,(owner.setIfInBounds (pos mask h n) (some hs.length))[j]?=if j=pos mask h n then some (some hs.length)else owner[j]?:=λj=>by
  rw[Array.getElem?_setIfInBounds];by_cases e:pos mask h n=j
  .rw[if_pos e,if_pos e.symm,if_pos hp]
  .rw[if_neg e,if_neg λz=>e z.symm]
 have hsz:(owner.setIfInBounds (pos mask h n) (some hs.length)).size=mask+1:=by rw[Array.size_setIfInBounds,L.size]
 have keep:∀j,j<=mask->fr owner j=false->fr (owner.setIfInBounds (pos mask h n) (some hs.length)) j=false:=λj b e=>by
  rw[W4 hsz b,get];split
  .exact⟨_,rfl⟩
  .exact(W4 L.size b).mp e
 refine⟨hsz,λj q e=>?_,λq k=>?_,λj g q e a=>?_⟩
 .rw[get]at e;by_cases c:j=pos mask h n
  .rw[if_pos c]at e;cases e;exact⟨h,by rw[List.getElem?_append_right (Nat.le_refl _),Nat.sub_self];rfl,n,c.symm,λm i=>keep _ (a0P mask h m) (h2 m i)⟩
  .rw[if_neg c]at e;obtain⟨h',d,p,o,l⟩:=L.val j q e;exact⟨h',by rw[List.getElem?_append_left (List.getElem?_eq_some_iff.mp d).1];exact d,p,o,λm i=>keep _ (a0P mask h' m) (l m i)⟩
 .by_cases c:q=hs.length
  .exact⟨pos mask h n,by rw[get,if_pos rfl,c]⟩
  .rw[List.length_append,List.length_singleton]at k;obtain⟨j,b⟩:=L.ex q (by omega);refine⟨j,?_⟩;rw[get,if_neg]
   .exact b
   .intro z;exact f q (z ▸ b)
 .rw[get]at e a;have lt:∀j:Nat,owner[j]?=some (some q)->q<hs.length:=λj z=>by
   obtain⟨_,d,_⟩:=L.val j q z;exact(List.getElem?_eq_some_iff.mp d).1
  by_cases c:j=pos mask h n
  .by_cases c':g=pos mask h n
   .rw[c,c']
   .rw[if_pos c]at e;rw[if_neg c']at a;cases e;exact absurd (lt _ a) (by omega)
  .by_cases c':g=pos mask h n
   .rw[if_neg c]at e;rw[if_pos c']at a;cases a;exact absurd (lt _ e) (by omega)
   .rw[if_neg c]at e;rw[if_neg c']at a;exact L.uniq j g q e a
theorem a5U{mask k:Nat}(c:mask+1=2 ^ k):∀(rest done:List Int) (owner:Array (Option Nat)),Lay mask owner done->done.length+rest.length<=mask ->
  ∃a,rest.foldl (λe h=>do
   let (owner,k) <-e
   let j <-SetTable.layClean.free mask owner (SetTable.turns mask) (SetTable.bits h % (mask+1)) (SetTable.bits h)
   pure (owner.setIfInBounds j (some k),k+1)) (some (owner,done.length))=some (a,(done++rest).length)/\Lay mask a (done++rest)
 |[],done,owner,L,_=>⟨owner,by simp,by simpa using L⟩
 |h::rest,done,owner,L,hl=>by
  rw[List.length_cons]at hl;obtain⟨n,h1,h2,f⟩:=L.free c (by omega) h;obtain⟨a,b,d⟩:=a5U c rest (done++[h]) _ (L.put h1 h2) (by rw[List.length_append,List.length_singleton];omega);refine⟨a,?_,by rw[List.append_assoc]at d;exact d⟩;rw[List.foldl_cons];rw[List.append_assoc]at b;refine Eq.trans (congrArg (λz=>List.foldl _ z rest) ?_) b;show(Option.bind (SetTable.layClean.free mask owner (SetTable.turns mask) (SetTable.bits h % (mask+1)) (SetTable.bits h)) λj=>some (owner.setIfInBounds j (some done.length),done.length+1))=_;rw[f,List.length_append];rfl
theorem a5V{mask k:Nat}(c:mask+1=2 ^ k)(a:Array Int)(hl:a.size<=mask):∃owner,SetTable.layClean mask a=some owner/\Lay mask owner a.toList:=by
 obtain⟨owner,b,d⟩:=a5U c a.toList [] _ (Lay.start mask) (by simpa using hl);refine⟨owner,?_,d⟩;unfold SetTable.layClean;rw[<-Array.foldl_toList];exact congrArg (Option.map (·.1)) b
theorem a7k{α β:Type}(f:α->Option β):∀l:List α,(∀x∈l,(f x).isSome=true)->(l.filterMap f).map some=l.map f
 |[],_=>rfl
 |x::l,h=>by
  have ih:=a7k f l λy b=>h y (List.mem_cons_of_mem _ b);have a:=h x List.mem_cons_self;cases e:f x with
  |none=>rw[e]at a;cases a
  |some y=>rw[List.filterMap_cons_some e,List.map_cons,List.map_cons,ih,e]
theorem b0O{α:Type}(es:Array α):(List.range es.size).filterMap (es[·]?)=es.toList:=by
 have h1:((List.range es.size).filterMap (es[·]?)).map some=(List.range es.size).map (es[·]?):=a7k _ _ λq a=>by
  have:=List.mem_range.mp a;simp[this]
 have h2:es.toList.map some=(List.range es.size).map (es[·]?):=by
  refine List.ext_getElem (by simp) λi h1 h2=>?_;simp at h1;simp[h1]
 exact(List.map_inj_right (λ_ _ h=>Option.some.inj h)).mp (h1.trans h2.symm)
def C7(mask:Nat)(owner:Array (Option Nat)):List (Nat×Nat):=(List.range (mask+1)).filterMap λj=>(owner.getD j none).map (j,·)
theorem N0{mask:Nat}{owner:Array (Option Nat)}(hs:owner.size=mask+1)(j q:Nat):(j,q)∈C7 mask owner↔owner[j]?=some (some q):=by
 unfold C7;rw[List.mem_filterMap];constructor
 .rintro⟨j',a,e⟩;have a:=List.mem_range.mp a;rw[Option.map_eq_some_iff]at e;obtain⟨d,b,c⟩:=e;cases c;rw[Array.getD_eq_getD_getElem?,Array.getElem?_eq_getElem (by omega)]at b;rw[Array.getElem?_eq_getElem (by omega)];exact congrArg some b
 .intro e;have f:j<owner.size:=(Array.getElem?_eq_some_iff.mp e).1;exact⟨j,List.mem_range.mpr (by omega),by rw[Array.getD_eq_getD_getElem?,e];rfl⟩
theorem b1D(mask:Nat)(owner:Array (Option Nat)):(C7 mask owner).Pairwise λa b=>a.1<b.1:=by
 unfold C7;refine List.Pairwise.filterMap _ (λa b c p hp q d=>?_) List.pairwise_lt_range;rw[Option.map_eq_some_iff]at hp d;obtain⟨_,_,rfl⟩:=hp;obtain⟨_,_,rfl⟩:=d;exact c
theorem b3V{α:Type}{mask k:Nat}(A:mask+1=2 ^ k)(H:3<=k)(es:Array (Int×α))(hl:es.size<=mask)(finger moves:Nat)(led plain:Bool) :
  ∃t' c,SetTable.laid mask finger moves led plain (es.map (·.1))=some (t',c)/\t'.mask=mask/\t'.led=led/\t'.plain=plain/\TabOk t' (c.filterMap (es[·]?))/\(c.filterMap (es[·]?)).toList.Perm es.toList:=by
 obtain⟨owner,e,L⟩:=a5V A (es.map (·.1)) (by simpa using hl);refine⟨{mask,place:=((C7 mask owner).map (·.1)).toArray,dummies:=#[],finger,led,moves,plain},((C7 mask owner).map (·.2)).toArray,?_,rfl,rfl,rfl,?_⟩
 .unfold SetTable.laid;rw[e];rfl
 have w:∀p∈C7 mask owner,p.2<es.size:=λp hp=>by
  obtain⟨h,h1,_⟩:=L.val p.1 p.2 ((N0 L.size p.1 p.2).mp hp);have:=(List.getElem?_eq_some_iff.mp h1).1;simpa using this
 have ris:=b1D mask owner;have nd:((C7 mask owner).map (·.2)).Nodup:=by
  rw[List.nodup_iff_pairwise_ne,List.pairwise_map];refine ris.imp_of_mem λ{a b} ha hb I z=>?_;have h1:=(N0 L.size a.1 a.2).mp ha;have h2:=(N0 L.size b.1 b.2).mp hb;rw[z]at h1;have:=L.uniq _ _ _ h1 h2;omega
 have d:∀q,q∈(C7 mask owner).map (·.2)↔q∈List.range es.size:=λq=>by
  rw[List.mem_range];constructor
  .intro s;obtain⟨p,hp,rfl⟩:=List.mem_map.mp s;exact w p hp
  .intro s;obtain⟨j,o⟩:=L.ex q (by simpa using s);exact List.mem_map.mpr ⟨(j,q),(N0 L.size j q).mpr o,rfl⟩
 have perm:((C7 mask owner).map (·.2)).Perm (List.range es.size):=(List.perm_ext_iff_of_nodup nd List.nodup_range).mpr d;have g:∀l:List Nat,(l.toArray.filterMap (es[·]?)).toList=l.filterMap (es[·]?):=λl=>by simp
 have f:(((C7 mask owner).map (·.2)).filterMap (es[·]?)).map some=((C7 mask owner).map (·.2)).map (es[·]?):=a7k _ _ λq s=>by
  have:=List.mem_range.mp ((d q).mp s);simp[this]
 have hsz:(((C7 mask owner).map (·.2)).toArray.filterMap (es[·]?)).size=(C7 mask owner).length:=by
  have:=congrArg List.length f;rw[List.length_map,List.length_map,List.length_map]at this;rw[<-Array.length_toList,g];exact this
 have r:(C7 mask owner).length=es.size:=by
  have:=perm.length_eq;rw[List.length_map,List.length_range]at this;exact this
 refine⟨⟨?_,rfl,?_,λj o=>?_,⟨k,H,A⟩,by rw[hsz,r];exact hl,λi j y t C=>?_⟩,?_⟩
 .rw[hsz];simp
 .rw[ris_list];show((C7 mask owner).map (·.1)).Pairwise (· < ·);rw[List.pairwise_map];exact ris
 .have o:j∈(C7 mask owner).map (·.1):=by simpa using o
  obtain⟨p,hp,rfl⟩:=List.mem_map.mp o;have:=(Array.getElem?_eq_some_iff.mp ((N0 L.size p.1 p.2).mp hp)).1;rw[L.size]at this;show p.1<=mask;omega
 .have t:((C7 mask owner).map (·.1))[i]?=some j:=by simpa using t
  rw[<-Array.getElem?_toList,g]at C;rw[List.getElem?_map,Option.map_eq_some_iff]at t;obtain⟨p,hp,rfl⟩:=t;have h1:=congrArg (λl=>l[i]?) f;simp only[List.getElem?_map,C,hp,Option.map_some]at h1;injection h1 with h1
  have v:=(N0 L.size p.1 p.2).mp (List.mem_of_getElem? hp);obtain⟨h,u,n,D,B⟩:=L.val p.1 p.2 v;have F:h=y.1:=by
   rw[Array.getElem?_toList,Array.getElem?_map,<-h1]at u;injection u with u
   exact u.symm
  rw[F]at D B;refine⟨n,D,λm E=>?_⟩;obtain⟨G,x⟩:=(W4 L.size (a0P mask _ m)).mp (B m E);have:pos mask y.1 m∈(C7 mask owner).map (·.1):=List.mem_map.mpr ⟨_,(N0 L.size _ G).mpr x,rfl⟩;show pos mask y.1 m∈((C7 mask owner).map (·.1)).toArray;simpa using this
 .rw[g];refine(perm.filterMap _).trans (List.Perm.of_eq ?_);exact b0O es
theorem a7V(n:Nat):∀(fuel a:Nat),3<=a->n<2 ^ (a+fuel)->∃b,3<=b/\SetTable.sizeAbove.go n fuel (2 ^ a)=2 ^ b/\n<2 ^ b/\(b=a∨2 ^ b<=2*n)
 |0,a,h3,h=>⟨a,h3,rfl,h,.inl rfl⟩
 |fuel+1,a,h3,h=>by
  unfold SetTable.sizeAbove.go;by_cases hc:2 ^ a<=n
  .rw[if_pos hc,<-Nat.pow_succ];obtain⟨b,e,d,c,f⟩:=a7V n fuel (a+1) (by omega) (by rw[Nat.add_assoc,Nat.add_comm 1];exact h);refine⟨b,e,d,c,.inr ?_⟩;rcases f with z|z
   .rw[z,Nat.pow_succ];omega
   .exact z
  .rw[if_neg hc];exact⟨a,h3,rfl,by omega,.inl rfl⟩
theorem a0o(n:Nat)(h:n<2 ^ 60):∃b,3<=b/\SetTable.sizeAbove n=2 ^ b/\n<2 ^ b/\(b=3∨2 ^ b<=2*n) :=
 a7V n 64 3 (Nat.le_refl _) (Nat.lt_of_lt_of_le h (by decide))
theorem a8T{α:Type}(t:SetTable)(es:Array (Int×α))(a:Nat)(hw:a<2 ^ 60)(hl:es.size<a) :
  ∃t' c,t.relaid (es.map (·.1)) a=some (t',c)/\a<=t'.mask/\t'.mask<=2*a+7/\t'.led=t.led/\t'.plain=t.plain/\TabOk t' (c.filterMap (es[·]?))/\(c.filterMap (es[·]?)).toList.Perm es.toList:=by
 obtain⟨b,d,g,l,j⟩:=a0o a hw;have hp:0<2 ^ b:=Nat.pow_pos (by decide);unfold SetTable.relaid;rw[g];obtain⟨t',c,h1,h2,f,i,h,e⟩:=b3V (mask:=2 ^ b-1) (k:=b) (by omega) d es (by omega) t.finger (t.movedTo (2 ^ b-1)) t.led t.plain;refine⟨t',c,h1,by rw[h2];omega,?_,f,i,h,e⟩;rw[h2];rcases j with z|z
 .rw[z];omega
 .omega
end Tab
end L2
namespace L2
namespace Tab
open PySem
section
variable {prog:Program}{w:World}{A:Around}{E:Value->Shared->Prop}{s:Shared}
abbrev TK(prog:Program)(w:World)(h:Heap)(r:List Int)(a:Addr):Prop:=IsTupleKey (intKind prog w) h r a
theorem TK.keep{h h':Heap}{r:List Int}{a:Addr}(x:TK prog w h r a)(k:∀b o,h.get? b=some o->h'.get? b=some o):TK prog w h' r a:=by
 obtain⟨o,its,n,h1,h2⟩:=x;exact⟨o,its,n,k _ _ h1,h2⟩
theorem items_int{r:List Int}{vs:List Value}(h:ItemsAre (intKind prog w) r vs):∀v∈vs,∃i t,v=.int i t:=by
 induction h with
 |nil=>intro v b;cases b
 |@cons k v ks vs h1 _ ih =>
  intro u a;rcases List.mem_cons.mp a with e|a
  .obtain⟨t,ht⟩:=Value.isInt_shape h1;exact⟨k,t,e.trans ht⟩
  .exact ih u a
theorem a5M{r:List Int}{a:Addr}{Q:Bool->Shared->Prop}(d:TK prog w s.heap r a)(h:Q false s):wpAny (model prog w) A (ofAClassStatement 8 (.ref a)) Q E s:=by
 have f:=d.typeIs;obtain⟨o,items,n,e,_,hd,hi⟩:=d;have c:=items_int hi;unfold ofAClassStatement;refine wpAny_bind (wpAny_typeOf f ?_);dsimp only;rw[if_pos (by decide)];refine wpAny_bind (wpAny_pure ?_);rw[if_neg (by decide)];refine wpAny_bind (wpAny_seqItems e hd ?_);dsimp only;refine wpAny_bind ?_;rw[<-Array.forIn_toList];refine wpAny_forIn_list _ (λrest b s'=>s'=s/\b.1=none/\∀v∈rest,∃i t,v=Value.int i t) _ ?_ ?_ _ _ ⟨rfl,rfl,c⟩
 .rintro x rest b s' ⟨rfl,hb,hr⟩;obtain⟨i,t,rfl⟩:=hr x List.mem_cons_self;refine wpAny_bind (m:=ofAClassStatement 7 (.int i t)) (wpAny_pure ?_);rw[if_neg (by decide)];exact wpAny_pure ⟨rfl,rfl,λv g=>hr v (List.mem_cons_of_mem _ g)⟩
 .rintro b s' ⟨rfl,hb,_⟩;rw[hb];exact wpAny_pure h
theorem b2t{r:List Int}{a:Addr}{Q:Bool->Shared->Prop}(d:TK prog w s.heap r a)(h:Q true s):wpAny (model prog w) A (hashByValue 8 (.ref a)) Q E s:=by
 have f:=d.typeIs;obtain⟨o,items,n,e,_,hd,hi⟩:=d;have c:=items_int hi;unfold hashByValue;refine wpAny_bind (wpAny_specialOf f F.slot_tuple_hash.lookup ?_);dsimp only;refine wpAny_bind (wpAny_seqItems e hd ?_);refine wpAny_bind ?_;show wpAny _ _ (forIn items _ _) _ _ _;rw[<-Array.forIn_toList];refine wpAny_forIn_list _ (λrest b s'=>s'=s/\b.1=none/\∀v∈rest,∃i t,v=Value.int i t) _ ?_ ?_ _ _ ⟨rfl,rfl,c⟩
 .rintro x rest b s' ⟨rfl,hb,hr⟩;obtain⟨i,t,rfl⟩:=hr x List.mem_cons_self;refine wpAny_bind (m:=hashByValue 7 (.int i t)) (wpAny_pure ?_);rw[if_neg (by decide)];exact wpAny_pure ⟨rfl,rfl,λv g=>hr v (List.mem_cons_of_mem _ g)⟩
 .rintro b s' ⟨rfl,hb,_⟩;rw[hb];exact wpAny_pure h
theorem b1z{r:List Int}{b:Addr}{l:List Value}{Q:Bool->Shared->Prop}(e:TK prog w s.heap r b)(hl:∀y∈l,∃a b',y=.ref b'/\TK prog w s.heap a b')(h:Q false s):wpAny (model prog w) A (searchCouldBeSeen (.ref b) l) Q E s:=by
 unfold searchCouldBeSeen;refine wpAny_bind ?_;refine wpAny_forIn_list _ (λrest c s'=>s'=s/\c.1=none/\∀y∈rest,∃a b',y=.ref b'/\TK prog w s.heap a b') _ ?_ ?_ _ _ ⟨rfl,rfl,hl⟩
 .rintro x rest c s' ⟨rfl,hc,hr⟩;obtain⟨a,b',rfl,d⟩:=hr x List.mem_cons_self;have go:∀y∈rest,∃a b',y=.ref b'/\TK prog w s'.heap a b':=λv f=>hr v (List.mem_cons_of_mem _ f);dsimp only;split
  .exact wpAny_pure ⟨rfl,rfl,go⟩
  .refine wpAny_bind ((tupleKind (intKind prog w)).quiet e ?_);rw[if_neg (by decide)];refine wpAny_bind ((tupleKind (intKind prog w)).quiet d ?_);rw[if_neg (by decide)];refine wpAny_bind (a5M e ?_);rw[if_neg (by decide)];refine wpAny_bind (a5M d ?_);rw[if_neg (by decide)];exact wpAny_pure ⟨rfl,rfl,go⟩
 .rintro c s' ⟨rfl,hc,_⟩;dsimp only;rw[hc];exact wpAny_pure h
noncomputable def hsh(prog:Program)(w:World)(r:List Int):Int:=tupleKeyHash (intKind prog w) r
noncomputable def ent(prog:Program)(w:World)(x:List Int×Addr):Int×Value:=(hsh prog w x.1,Value.ref x.2)
theorem G0{α:Type}{t:SetTable}{es:Array (Int×α)}(ok:TabOk t es):t.fits es.size=true:=by
 unfold SetTable.fits SetTable.fill;have:=ok.room;simp[ok.size,ok.dum,this]
theorem b6f{α:Type}{t:SetTable}{es:Array (Int×α)}(ok:TabOk t es):t.gaveWay=false:=by
 obtain⟨k,b,a⟩:=ok.pow;obtain⟨c,rfl⟩:∃c,k=c+1:=⟨k-1,by omega⟩;rw[Nat.pow_succ]at a;unfold SetTable.gaveWay;have:t.mask % 2=1:=by omega
 rw[this];rfl
theorem b1E{c:Bool}{m:Sem Bool}{X Y:Sem SetFound}{Q:SetFound->Shared->Prop}(b:∀a:Bool->Shared->Prop,a false s->wpAny (model prog w) A m a E s)(h:wpAny (model prog w) A Y Q E s):wpAny (model prog w) A (if c=true then m>>=λz=>if z=true then X else Y else Y) Q E s:=by
 split
 .refine wpAny_bind (b _ ?_);rw[if_neg (by decide)];exact h
 .exact h
theorem a3C{a b:Addr}{r:List Int}{o:Obj}{es:Array (Int×Value)}{ep:Nat}{t:SetTable}{xs:List (List Int×Addr)}{Q:SetFound->Shared->Prop}(P:s.heap.get? a=some o)(hd:o.data=.set es ep t)(ok:TabOk t es)
  (G:∀e∈es.toList,∃x∈xs,e=ent prog w x) (K:∀x∈xs,ent prog w x∈es.toList) (g:∀x∈xs,TK prog w s.heap x.1 x.2) (O:TK prog w s.heap r b) (X:A.units<cLine) {N:Nat}(hN:N<10*SetTable.turns t.mask) (k:pos t.mask (hsh prog w r) N∉t.place) (v:∀m,m<N->pos t.mask (hsh prog w r) m∈t.place)
  (J:r∈xs.map (·.1)->Q (.there none) s) (C:r∉xs.map (·.1)->Q (.free (pos t.mask (hsh prog w r) N) false) s) :
  ∀(fuel d:Nat) (st:Option SetTable.Probe),N-d<fuel->d<=N->st.getD (t.probeStart (hsh prog w r))=B6 t.mask (st0 t.mask (hsh prog w r)) d->(∀m,m<d->∀(i:Nat) (x:List Int×Addr),x∈xs->t.place[i]?=some (pos t.mask (hsh prog w r) m)->es[i]?=some (ent prog w x)->x.1≠r) ->
   wpAny (model prog w) A (setSearchFrom a (.ref b) (hsh prog w r) true fuel st) Q E s
 |0,d,st,h,_,_,_=>absurd h (by omega)
 |fuel+1,d,st,hf,hn0,hst,hno=>by
  unfold setSearchFrom;refine wpAny_bind (wpAny_setState_of P hd (G0 ok) ?_);dsimp only;rw[b6f ok,if_neg (by decide),hst];have f:∀m,(B6 t.mask (B6 t.mask (st0 t.mask (hsh prog w r)) d) m).j=pos t.mask (hsh prog w r) (d+m):=λm=>by rw[<-a0l];rfl
  have U:∀(i:Nat) (e:Int×Value),es[i]?=some e->(es[i]?.map (·.1)).getD 0=e.1:=λi e z=>by rw[z];rfl
  have R:∀n,d+n<N↔pos t.mask (hsh prog w r) (d+n)∈t.place/\∀m,m<n->pos t.mask (hsh prog w r) (d+m)∈t.place:=λn=>by
   constructor
   .intro h;exact⟨v _ h,λm M=>v _ (by omega)⟩
   .rintro⟨h1,h2⟩;rcases Nat.lt_trichotomy (d+n) N with z|z|z
    .exact z
    .rw[z]at h1;exact absurd h1 k
    .have:=h2 (N-d) (by omega);rw[show d+(N-d)=N by omega]at this;exact absurd this k
  rcases a5J ok.ris ok.dum (λi=>(es[i]?.map (·.1)).getD 0) (hsh prog w r) (10*SetTable.turns t.mask) (B6 t.mask (st0 t.mask (hsh prog w r)) d) (by rw[a0J];rfl) ⟨N-d,by omega,by rw[f,show d+(N-d)=N by omega];exact k⟩with⟨n,h1,h2,h3⟩|⟨n,h1,h2,h3,h4⟩
  .have h3:t.probe (λi=>(es[i]?.map (·.1)).getD 0) (hsh prog w r) (B6 t.mask (st0 t.mask (hsh prog w r)) d)=_:=h3;erw [h3];dsimp only;rw[f]at h1⊢;have e:d+n=N:=by
    rcases Nat.lt_trichotomy (d+n) N with z|z|z
    .exact absurd (v _ z) h1
    .exact z
    .have:=(h2 (N-d) (by omega)).1;rw[f,show d+(N-d)=N by omega]at this;exact absurd this k
   rw[e];refine wpAny_pure (C λM=>?_);obtain⟨x,I,rfl⟩:=List.mem_map.mp M;obtain⟨i,hi⟩:=List.mem_iff_getElem?.mp (K x I);rw[Array.getElem?_toList]at hi;have B:i<t.place.size:=by rw[ok.size];exact(Array.getElem?_eq_some_iff.mp hi).1
   obtain⟨q,W,V⟩:=ok.reach i _ _ (a0z B) hi;change pos t.mask (hsh prog w x.1) q=_ at W;change ∀m,m<q->pos t.mask (hsh prog w x.1) m∈t.place at V;have l:t.place[i]?=some (pos t.mask (hsh prog w x.1) q):=by rw[W];exact a0z B
   have Z:q<N:=by
    rcases Nat.lt_trichotomy q N with z|z|z
    .exact z
    .rw[z]at l;exact absurd (Array.mem_of_getElem? l) k
    .exact absurd (V N z) k
   by_cases c:q<d
   .exact hno q c i x I l hi rfl
   .have H:=(h2 (q-d) (by omega)).2;rw[f,show d+(q-d)=q by omega,a0F ok.ris l,U i _ hi]at H;exact H rfl
  .have h4:t.probe (λi=>(es[i]?.map (·.1)).getD 0) (hsh prog w r) (B6 t.mask (st0 t.mask (hsh prog w r)) d)=_:=h4;erw [h4];dsimp only;rw[f]at h1 h2⊢;have Y:d+n<N:=(R n).mpr ⟨h1,λm M=>by have:=(h3 m M).1;rw[f]at this;exact this⟩;have l:=(a1e ok.ris _).mpr h1;generalize L:SetTable.below t.place (pos t.mask (hsh prog w r) (d+n))=ib at h2 l⊢;have B:ib<es.size:=by rw[<-ok.size];exact(Array.getElem?_eq_some_iff.mp l).1
   obtain⟨x,I,ex⟩:=G es[ib] (by simp);have F:es[ib]?=some (ent prog w x):=by rw[Array.getElem?_eq_getElem B,ex]
   rw[F];dsimp only;refine b1E (λQ' hq=>b1z O (λy hy=>?_) hq) ?_
   .obtain⟨e,S,rfl⟩:=List.mem_map.mp hy;have S:e∈es:=by
     have:=Array.mem_toList_iff.mp S;exact(Array.mem_filter.mp this).1
    obtain⟨D,u,ex'⟩:=G e (by simpa using S);exact⟨D.1,D.2,by rw[ex'];rfl,g D u⟩
   refine wpAny_bind (wpAny_holding ((tupleKind (intKind prog w)).eqBool X (g x I) O ?_));refine wpAny_bind (wpAny_setState_of P hd (G0 ok) ?_);dsimp only;by_cases p:x.1=r
   .rw[if_pos (by rw[decide_eq_true p];rfl)];exact wpAny_pure (J (List.mem_map.mpr ⟨x,I,p⟩))
   .rw[if_neg (by rw[decide_eq_false p];decide)];have sm:t.sameMemory t.moves t.mask=some true:=by unfold SetTable.sameMemory;simp
    rw[sm];dsimp only;rw[if_pos rfl,a7U ok.ris ok.dum,if_pos h1];dsimp only;rw[L,F];dsimp only;refine wpAny_bind (wpAny_isSame_ref_self ?_);rw[if_pos rfl];refine wpAny_bind (wpAny_pure ?_);dsimp only;rw[if_neg (by rw[decide_eq_false p];decide)];refine a3C P hd ok G K g O X hN k v J C fuel (d+n+1) _ (by omega) (by omega) (by rw[<-a0l];rfl) λm M i D u hp hi=>?_;by_cases c:m<d
    .exact hno m c i D u hp hi
    .by_cases c2:m=d+n
     .subst c2;have:ib=i:=by rw[<-L];exact a0F ok.ris hp
      subst this;rw[F]at hi;injection hi with hi
      have H:x.2=D.2:=by
       have:=congrArg Prod.snd hi;injection this
      intro z;have T:=g x I;rw[H]at T;exact p ((T.inj (g D u)).trans z)
     .have H:=(h3 (m-d) (by omega)).2;rw[f,show d+(m-d)=m by omega,a0F ok.ris hp,U i _ hi]at H;intro z;exact H (by rw[<-z];rfl)
def W8(prog:Program)(w:World)(ld:Bool)(h:Heap)(a:Addr)(xs:List (List Int×Addr)):Prop :=
 ∃o es ep t,h.get? a=some o/\o.ExactSet/\o.data=.set es ep t/\es.toList.Perm (xs.map (ent prog w))/\TabOk t es/\t.plain=true/\es.size*5<t.mask*3/\t.mask<=8*xs.length+7/\t.led=ld
theorem b6Q{ld:Bool}{a b:Addr}{r:List Int}{xs:List (List Int×Addr)}{Q:Bool->Shared->Prop}(hS:W8 prog w ld s.heap a xs)(P:∀x∈xs,TK prog w s.heap x.1 x.2)(U:TK prog w s.heap r b)(hu:A.units<cLine)(hl:xs.length<1000)
  (h:∀h' y c,Heap.SameBut a s.heap h'->W8 prog w ld h' a y->((r∈xs.map (·.1)/\y=xs)∨(r∉xs.map (·.1)/\y=(r,b)::xs))->Q c {s with heap:=h',toks:=s.toks+(r.length+1)}):wpAny (model prog w) A (setAdd a (.ref b)) Q E s:=by
 obtain⟨o,es,ep,t,F,B,hd,n,ok,C,a0,X,I⟩:=hS;have hsz:es.size=xs.length:=by rw[<-Array.length_toList,n.length_eq,List.length_map]
 unfold setAdd;refine wpAny_holding (wpAny_bind (wpAny_pyHash_tuple hu U ?_));unfold setAddHashed;refine wpAny_holding ?_;unfold setAddHashedIn;refine wpAny_bind (wpAny_setState_of (s:={s with toks:=s.toks+(r.length+1)}) F hd (G0 ok) ?_);dsimp only;rw[show byScan (.ref b) es=false from rfl,if_neg (by decide)];unfold setSearch;obtain⟨N,hN,J,L⟩:=ok.first (hsh prog w r);have a4:N<100000:=by unfold SetTable.turns at hN;omega
 refine wpAny_bind (a3C (s:={s with toks:=s.toks+(r.length+1)}) (xs:=xs) F hd ok (λe he=>?_) (λx W=>n.mem_iff.mpr (List.mem_map.mpr ⟨x,W,rfl⟩)) P U hu hN J L (λa5=>?_) (λM=>?_) 100000 0 none (by omega) (Nat.zero_le _) rfl (λm hm=>absurd hm (by omega)))
 .obtain⟨x,W,rfl⟩:=List.mem_map.mp (n.mem_iff.mp he);exact⟨x,W,rfl⟩
 .refine wpAny_pure ?_;exact h s.heap xs false (Heap.SameBut.refl a s.heap) ⟨o,es,ep,t,F,B,hd,n,ok,C,a0,X,I⟩ (.inl ⟨a5,rfl⟩)
 .dsimp only;refine wpAny_bind (wpAny_setState_of (s:={s with toks:=s.toks+(r.length+1)}) F hd (G0 ok) ?_);dsimp only;rw[if_pos (show(t.put (pos t.mask (hsh prog w r) N)).1.plain=true from C)];refine wpAny_bind (b2t (s:={s with toks:=s.toks+(r.length+1)}) U ?_);simp only[↓reduceIte,Bool.not_false,Bool.true_and];have j:=ok.add (v:=Value.ref b) J L (a0P _ _ _) (by omega);have T:(t.put (pos t.mask (hsh prog w r) N)).1.mask=t.mask:=rfl;have p:(t.put (pos t.mask (hsh prog w r) N)).1.plain=true:=C;have l:(t.put (pos t.mask (hsh prog w r) N)).1.led=ld:=I;have a1:(t.put (pos t.mask (hsh prog w r) N)).2<=es.size:=by
   have:=(G2 ok.ris (pos t.mask (hsh prog w r) N)).1;rw[ok.size]at this;exact this
  have K:=W3 es (t.put (pos t.mask (hsh prog w r) N)).2 (hsh prog w r,Value.ref b) a1;change wpAny _ _ (storeSet a (SetTable.insertAt es (t.put (pos t.mask (hsh prog w r) N)).2 (hsh prog w r,Value.ref b)) _>>=_) _ _ _;generalize (t.put (pos t.mask (hsh prog w r) N)).1=t1 at j T p l⊢;generalize SetTable.insertAt es (t.put (pos t.mask (hsh prog w r) N)).2 (hsh prog w r,Value.ref b)=d at j K⊢;have q:d.toList.Perm (((r,b)::xs).map (ent prog w)):=by
   rw[K];refine List.perm_middle.trans ?_;rw[List.take_append_drop,List.map_cons];exact List.Perm.cons _ n
  have H:d.size=xs.length+1:=by rw[<-Array.length_toList,q.length_eq,List.length_map,List.length_cons]
  have G:d.size<=sizeLine:=by rw[sizeLine_eq];omega
  refine wpAny_bind (wpAny_storeSet_of (s:={s with toks:=s.toks+(r.length+1)}) F hd ?_ G);have u:(s.heap.update a (Obj.putSet d t1)).get? a=some {o with data:=.set d (ep+1) t1}:=by
   have:=Heap.get?_update_self (Obj.putSet d t1) F (by rw[putSet_of d t1 hd];rfl);rw[putSet_of d t1 hd]at this;exact this
  have O:=Heap.SameBut.update s.heap a (Obj.putSet d t1);have S:t1.fill=d.size:=by unfold SetTable.fill;rw[j.size,j.dum];rfl
  by_cases f:t1.tooFull=true
  .rw[if_pos f];unfold SetTable.tooFull at f;rw[S,decide_eq_true_eq]at f;refine wpAny_bind ?_;unfold setRelay;refine wpAny_bind (wpAny_setState_of (s:={s with heap:=s.heap.update a (Obj.putSet d t1),toks:=s.toks+(r.length+1)}) u rfl (G0 j) ?_);dsimp only;have Z:SetTable.grown (es.size+1)=4*(xs.length+1):=by
    unfold SetTable.grown;rw[if_neg (by omega),hsz];omega
   rw[Z];obtain⟨sb,a3,a2,a7,V⟩:=a0o (4*(xs.length+1)) (by omega);have a6:SetTable.sizeAbove (4*(xs.length+1))<=16000:=by
    rw[a2];rcases V with z|z
    .rw[z];decide
    .omega
   rw[if_neg (by rw[sizeLine_eq];omega)];obtain⟨t2,g,r1,r2,r3,r4,r5,R,D⟩:=a8T t1 d (4*(xs.length+1)) (by omega) (by omega);rw[r1];have i:(g.filterMap (d[·]?)).size=d.size:=by rw[<-Array.length_toList,D.length_eq,Array.length_toList]
   refine wpAny_bind ?_;show wpAny _ _ (if ((g.filterMap (d[·]?)).size != d.size)=true then _ else pure (g.filterMap (d[·]?),t2)) _ _ _;rw[if_neg (by rw[i];simp)];refine wpAny_pure ?_;dsimp only;generalize g.filterMap (d[·]?)=k at R D i⊢;refine wpAny_storeSet_of (s:={s with heap:=s.heap.update a (Obj.putSet d t1),toks:=s.toks+(r.length+1)}) u rfl ?_ (by rw[i];exact G);have Y:((s.heap.update a (Obj.putSet d t1)).update a (Obj.putSet k t2)).get? a=some {o with data:=.set k (ep+1+1) t2}:=by
    have:=Heap.get?_update_self (Obj.putSet k t2) u (by rw[putSet_of k t2 rfl];rfl);rw[putSet_of k t2 rfl]at this;exact this
   refine wpAny_pure (h _ ((r,b)::xs) true (O.trans (Heap.SameBut.update _ a _)) ⟨_,k,_,t2,Y,B,rfl,D.trans q,R,by rw[r5];exact p,?_,?_,by rw[r4];exact l⟩ (.inr ⟨M,rfl⟩))
   .rw[i,H];omega
   .rw[List.length_cons];omega
  .rw[if_neg f];unfold SetTable.tooFull at f;rw[S,decide_eq_true_eq]at f;refine wpAny_pure (h _ ((r,b)::xs) true O ⟨_,d,_,t1,u,B,rfl,q,j,p,by omega,?_,l⟩ (.inr ⟨M,rfl⟩));rw[List.length_cons,T];omega
end
end Tab
end L2
namespace L2
namespace Tab
open PySem
structure Came(rows:Nat->List Int×Addr)(i:Nat)(xs:List (List Int×Addr)):Prop where
 len:xs.length<=i
 nd:(xs.map (·.1)).Nodup
 from_:∀x∈xs,∃j,j<i/\x=rows j
 all:∀j,j<i->(rows j).1∈xs.map (·.1)
section
variable {prog:Program}{w:World}{A:Around}{R:Result->Shared->Prop}{I:Addr}{fp wr:List Addr}{G:Array GenState->Array GenState->Prop}{n:Nat}{P:Nat->Value->Prop}{St:Nat->Shared->Prop}
theorem a5o(W:WalksS prog w A.in1 I fp wr G n P St)(S:Addr)(K:S∉fp){ld:Bool}{h0:Heap}(y:∀b o,h0.get? b=some o->b∉wr/\b≠S)(a:Nat->List Int×Addr)
  (B:∀i v,i<n->P i v->v=.ref (a i).2) (m:∀i,i<n->TK prog w h0 (a i).1 (a i).2) (hn:n<=1000) (hu:A.units+10<cLine) :
  ∀(k i:Nat) (s:Shared) (xs:List (List Int×Addr)),n-i=k->i<=n->St i s->(∀b o,h0.get? b=some o->s.heap.get? b=some o)->W8 prog w ld s.heap S xs->Came a i xs ->
   (∀s' f,Moved (S::wr) G s s'->W8 prog w ld s'.heap S f->Came a n f->R (.ok (.ret .none)) s') ->
   codeAny (model prog w) A (.builtin "set.update.loop" ⟨[.ref S,.ref I],[]⟩) R s:=by
 have H:S∉wr:=λh=>K (W.sub _ h);have l:∀b∈wr,b∈S::wr:=λb hb=>List.mem_cons_of_mem _ hb;intro k;induction k with
 |zero =>
  intro i s xs hk hi q D X d hR;have Q:i=n:=by omega
  subst Q;refine codeAny_builtin PyProof.Rows.F.entry_set_update_loop ?_;rw[Around.under_plainId PyProof.Rows.F.plain_set_update_loop _];show wpAny _ A.in1 (pyNext (.ref I)>>=_) _ _ s;refine wpAny_bind (W.done s _ _ q λs' u=>?_);show wpAny _ A.in1 (ret Value.none) _ _ s';refine wpAny_pure (hR s' xs (u.mono l) ?_ d);obtain⟨o,es,ep,t,T,rest⟩:=X;exact⟨o,es,ep,t,u.heap S _ H T,rest⟩
 |succ k ih =>
  intro i s xs hk hi q D X d hR;have g:i<n:=by omega
  refine codeAny_builtin PyProof.Rows.F.entry_set_update_loop ?_;rw[Around.under_plainId PyProof.Rows.F.plain_set_update_loop _];show wpAny _ A.in1 (pyNext (.ref I)>>=_) _ _ s;refine wpAny_bind (W.item i s _ _ g q λv s' hP L u=>?_);obtain rfl:=B i v g hP;have Z:W8 prog w ld s'.heap S xs:=by
   obtain⟨o,es,ep,tb,T,rest⟩:=X;exact⟨o,es,ep,tb,u.heap S _ H T,rest⟩
  have r:∀b o,h0.get? b=some o->s'.heap.get? b=some o:=λb o e=>u.heap b o (y b o e).1 (D b o e);show wpAny _ A.in1 (holding [Value.ref (a i).2] (setAdd S (.ref (a i).2))>>=_) _ _ s';refine wpAny_bind (wpAny_holding (b6Q Z (λx C=>?_) ((m i g).keep r) (show A.units+1<cLine by omega) (by have:=d.len;omega) λh' f c p V Y=>?_))
  .obtain⟨j,O,rfl⟩:=d.from_ x C;exact(m j (by omega)).keep r
  have U:Came a (i+1) f:=by
   rcases Y with⟨h1,rfl⟩|⟨h1,rfl⟩
   .refine⟨by have:=d.len;omega,d.nd,λx C=>?_,λj O=>?_⟩
    .obtain⟨j,O,e⟩:=d.from_ x C;exact⟨j,by omega,e⟩
    .by_cases c:j=i
     .rw[c];exact h1
     .exact d.all j (by omega)
   .refine⟨by have:=d.len;rw[List.length_cons];omega,by rw[List.map_cons,List.nodup_cons];exact⟨h1,d.nd⟩,λx C=>?_,λj O=>?_⟩
    .rcases List.mem_cons.mp C with z|z
     .exact⟨i,by omega,z⟩
     .obtain⟨j,O,e⟩:=d.from_ x z;exact⟨j,by omega,e⟩
    .rw[List.map_cons];by_cases c:j=i
     .rw[c];exact List.mem_cons_self
     .exact List.mem_cons_of_mem _ (d.all j (by omega))
  refine wpAny_pure ⟨plainId_quiet PyProof.Rows.F.plain_set_update_loop _,ih (i+1) _ f (by omega) g (W.frame _ s' _ _ L (Nat.le_add_right _ _) λb hb o e=>?_) (λb o e=>?_) V U λa0 J E N M=>?_⟩
  .rw[p.2 b (λh:b=S=>K (by rw[<-h];exact hb))];exact e
  .show h'.get? b=some o;rw[p.2 b (y b o e).2];exact r b o e
  .refine hR a0 J (Moved.trans W.gtrans ((u.mono l).then_heap (Nat.le_add_right _ _) λb o hb e=>?_) E) N M;rw[p.2 b (λh:b=S=>hb (by rw[h];exact List.mem_cons_self))];exact e
end
section
variable {prog:Program}{w:World}{A:Around}{E:Value->Shared->Prop}{s:Shared}
theorem a0a(a:Value){Q₁:Value->Shared->Prop}
  (h:Q₁ (.ref s.heap.objs.size) {s with heap:=s.heap.push {cls:=.type "set",dict:=none,data:=.set #[] 0 (.fresh 0 0 (!w.params.followText "set-order"))}}) :
  codeAny (model prog w) A (.call (.builtin "set.__new__") ⟨[.type "set",a],[]⟩) (wants Q₁ E) s:=by
 refine codeAny_of_tree ?_;show wpAny _ A.in1 (do checkBuiltinCall "set.__new__" ⟨[.type "set",a],[]⟩;again (.builtin "set.__new__" ⟨[.type "set",a],[]⟩)) _ _ s;refine wpAny_bind (wpAny_of_eq (PySem.F.newCall_set_1 a) (wpAny_pure ⟨plainId_quiet PySem.F.plain_set_new _,codeAny_builtin PySem.F.entry_set_new ?_⟩));rw[Around.under_plainId PySem.F.plain_set_new _];unfold Builtin.«set.__new__» Builtin.Frozenset.newClass;have b:=sub_set_self;obtain⟨hp,g,d,tk,os⟩:=s;dsimp only
 wp_walk
 refine wpAny_askSetting (wpAny_pure ?_);dsimp only;simp only[newObj];refine wpAny_bind (wpAny_alloc (wpAny_pure ?_));exact wpAny_pure h
theorem a3B{led:Bool}{h:Heap}{a:Addr}(e:h.get? a=some {cls:=.type "set",dict:=none,data:=.set #[] 0 (.fresh 0 0 led)}):W8 prog w led h a [] :=
 ⟨_,#[],0,_,e,⟨rfl,rfl,rfl⟩,rfl,List.Perm.nil,⟨rfl,rfl,λa b h1 h2=>absurd h2 (by simp[SetTable.fresh]),λj c=>by simp[SetTable.fresh]at c,⟨3,Nat.le_refl _,rfl⟩,Nat.zero_le _,λi j e h1 h2=>by simp at h2⟩,rfl,by show 0*5<7*3;decide,by show 7<=8*0+7;decide,rfl⟩
theorem a4h:isSubtype (.type "list") (.type "set")=pure false:=by rw[isSubtype_type];kernel_rfl
theorem a0c:isSubtype (.type "list") (.type "frozenset")=pure false:=by rw[isSubtype_type];kernel_rfl
theorem a3p{l:Addr}{items:Array Value}{a:Nat->List Int×Addr}{Q:Value->Shared->Prop}
  (hh:A.handled=none) (hl:s.heap.IsList l items) (p:∀i v,i<items.size->items[i]?=some v->v=.ref (a i).2) (q:∀i,i<items.size->TK prog w s.heap (a i).1 (a i).2) (hn:items.size<=1000) (hu:A.units+20<cLine)
  (h:∀(h':Heap) (tk:Nat) (xs:List (List Int×Addr)),W8 prog w (!w.params.followText "set-order") h' s.heap.objs.size xs->Came a items.size xs ->
   (∀b o,b<s.heap.objs.size->s.heap.get? b=some o->h'.get? b=some o)->Q (.ref s.heap.objs.size) {s with heap:=h',toks:=tk}) :
  wpAny (model prog w) A (call (.type "set") [.ref l]) Q E s:=by
 obtain⟨c,tl,U⟩:=PySem.F.called_set.mro;have H:=PySem.F.called_set.made;have P:=PySem.F.called_set.sub;refine wpAny_call (codeAny_of_tree ?_);show wpAny _ _ (callAny (.type "set") _) _ _ _;refine wpAny_pure ⟨Code.quiet_builtin _ (by decide +kernel),codeAny_builtin PySem.F.entry_type_call ?_⟩;rw[Around.under_plain (weight_type_call_type "set" [.ref l] []) rfl];have h1:=PySem.F.called_set.notType;have h2:=PySem.F.called_set.canCreate;have a2:=PySem.F.typeCall_set_1 (.ref l)
 repeat (any_goals (first|assumption|wp_step))
 refine codeAny_mono (a0a (.ref l) (E:=E) (Q₁:=λobj s₁=>obj=.ref s.heap.objs.size/\s₁={s with heap:=s.heap.push {cls:=.type "set",dict:=none,data:=.set #[] 0 (.fresh 0 0 (!w.params.followText "set-order"))}}) ⟨rfl,rfl⟩) λr s₁ f=>?_;cases r with
 |error e=>exact f
 |ok fl =>
  cases fl with
  |ret obj =>
   obtain⟨rfl,rfl⟩:=f;generalize Y:(!w.params.followText "set-order")=led at h;have V:(s.heap.push {cls:=.type "set",dict:=none,data:=.set #[] 0 (.fresh 0 0 led)}).get? s.heap.objs.size=some {cls:=.type "set",dict:=none,data:=.set #[] 0 (.fresh 0 0 led)}:=Heap.get?_push_size _ rfl;have hT:Shared.TypeIs {s with heap:=s.heap.push {cls:=.type "set",dict:=none,data:=.set #[] 0 (.fresh 0 0 led)}} (.ref s.heap.objs.size) "set":=⟨_,V,rfl⟩;have a0:=PySem.F.called_set.init.lookup;have a3:=PySem.F.called_set.init.bind (.ref s.heap.objs.size)
   repeat (any_goals (first|assumption|wp_step))
   refine codeAny_mono (codeAny_call_builtin (R:=wants (λr s₂=>r=.none/\∃h' tk xs,s₂={s with heap:=h',toks:=tk}/\W8 prog w led h' s.heap.objs.size xs/\Came a items.size xs /\
     (∀b o,b<s.heap.objs.size->s.heap.get? b=some o->h'.get? b=some o)) E) PySem.F.called_set.init.plain PySem.F.entry_set_init (check_set_init_1 hT ?_)) λr₂ s₂ hr₂=>?_
   .obtain⟨ol,hol,hcl,nl,hdl⟩:=hl;obtain⟨T,g,I,d⟩:=ol;simp only at hcl hdl;subst hcl;subst hdl;have t:(s.heap.push {cls:=.type "set",dict:=none,data:=.set #[] 0 (.fresh 0 0 led)}).get? l=some {cls:=.type "list",dict:=g,data:=.seq items nl,slots:=d}:=Heap.get?_push_of_some _ hol;have S:=a4h;have W:=a0c;have a1:(Value.type "list"==Value.type "dict")=false:=by decide
    have n:(s.heap.push {cls:=.type "set",dict:=none,data:=.set #[] 0 (.fresh 0 0 led)}).IsList l items:=⟨_,t,rfl,nl,rfl⟩;unfold Builtin.«set.__init__» noKeywords Builtin.Frozenset.updateFrom;generalize K:pyIter=PI
    wp_walk
    subst K;refine wpAny_pyIter_list n ?_;refine wpAny_bind (wpAny_runValue ?_);have z:l<s.heap.objs.size:=Heap.lt_size hol;have N:A.in1.in1.in1.handled=none:=by simp[hh]
    have u:l≠(s.heap.push {cls:=.type "set",dict:=none,data:=.set #[] 0 (.fresh 0 0 led)}).objs.size:=by
     rw[Heap.size_push];exact Nat.ne_of_lt (Nat.lt_succ_of_lt z)
    have M:s.heap.objs.size∉[(s.heap.push {cls:=.type "set",dict:=none,data:=.set #[] 0 (.fresh 0 0 led)}).objs.size,l]:=by
     rw[Heap.size_push];simp only[List.mem_cons,List.mem_singleton,List.not_mem_nil,or_false,not_or];exact⟨Nat.ne_of_lt (Nat.lt_succ_self _),Nat.ne_of_gt z⟩
    have y:((s.heap.push {cls:=.type "set",dict:=none,data:=.set #[] 0 (.fresh 0 0 led)}).push {cls:=.type "list_iterator",data:=.fields #[.ref l,.int 0 0]}).get? s.heap.objs.size
       = some {cls:=.type "set",dict:=none,data:=.set #[] 0 (.fresh 0 0 led)}:=Heap.get?_push_of_some _ V
    refine a5o (ld:=led) (h0:=s.heap) ((Walks.list N _ l u items).toS) s.heap.objs.size M (λb o e=>?_) a p q hn (show A.units+2+10<cLine by omega) (items.size-0) 0 _ [] (by omega) (Nat.zero_le _)
     ⟨⟨_,Heap.get?_push_size _ rfl,rfl,rfl⟩,(n.push _)⟩ (λb o e=>Heap.get?_push_of_some _ (Heap.get?_push_of_some _ e)) (a3B y) ⟨Nat.le_refl _,List.nodup_nil,(λx hx=>nomatch hx),λj Z=>absurd Z (Nat.not_lt_zero j)⟩ ?hR
    .have:=Heap.lt_size e;rw[Heap.size_push];simp only[List.mem_cons,List.not_mem_nil,or_false];exact⟨Nat.ne_of_lt (Nat.lt_succ_of_lt this),Nat.ne_of_lt this⟩
    case hR =>
     intro s' D B m k;obtain⟨h',g',d',G,C⟩:=s';have X:g'=s.gens:=B.gens;have ed:d'=s.drawn:=B.drawn;have eo:C=s.os:=B.os;subst X;subst ed;subst eo;show wpAny _ _ _ _ _ _;refine wpAny_pure ?_;show wpAny _ _ (ret Value.none) _ _ _;refine wpAny_pure ⟨rfl,h',G,D,rfl,m,k,λb o hb e=>?_⟩;have O:b≠s.heap.objs.size:=Nat.ne_of_lt hb;have L:b≠(s.heap.push {cls:=.type "set",dict:=none,data:=.set #[] 0 (.fresh 0 0 led)}).objs.size:=by
      rw[Heap.size_push];exact Nat.ne_of_lt (Nat.lt_succ_of_lt hb)
     exact B.heap b o (by simp only[List.mem_cons,List.mem_singleton,List.not_mem_nil,or_false,not_or];exact⟨O,L⟩) (Heap.get?_push_of_some _ (Heap.get?_push_of_some _ e))
   .cases r₂ with
    |error e=>exact hr₂
    |ok fl₂ =>
     cases fl₂ with
     |ret r =>
      obtain⟨rfl,h',tk,xs,rfl,m,k,J⟩:=hr₂
      repeat (any_goals (first|assumption|wp_step))
      exact h _ _ _ m k J
     |_=>exact hr₂.elim
  |_=>exact f.elim
theorem a3f:isSubtype (.type "tuple") (.type "set")=pure false:=by rw[isSubtype_type];kernel_rfl
theorem Z3:isSubtype (.type "tuple") (.type "frozenset")=pure false:=by rw[isSubtype_type];kernel_rfl
theorem a3a{l:Addr}{items:Array Value}{a:Nat->List Int×Addr}{Q:Value->Shared->Prop}
  (hh:A.handled=none) (hl:s.heap.IsTuple l items) (p:∀i v,i<items.size->items[i]?=some v->v=.ref (a i).2) (q:∀i,i<items.size->TK prog w s.heap (a i).1 (a i).2) (hn:items.size<=1000) (hu:A.units+20<cLine)
  (h:∀(h':Heap) (tk:Nat) (xs:List (List Int×Addr)),W8 prog w (!w.params.followText "set-order") h' s.heap.objs.size xs->Came a items.size xs ->
   (∀b o,b<s.heap.objs.size->s.heap.get? b=some o->h'.get? b=some o)->Q (.ref s.heap.objs.size) {s with heap:=h',toks:=tk}) :
  wpAny (model prog w) A (call (.type "set") [.ref l]) Q E s:=by
 obtain⟨c,tl,U⟩:=PySem.F.called_set.mro;have H:=PySem.F.called_set.made;have P:=PySem.F.called_set.sub;refine wpAny_call (codeAny_of_tree ?_);show wpAny _ _ (callAny (.type "set") _) _ _ _;refine wpAny_pure ⟨Code.quiet_builtin _ (by decide +kernel),codeAny_builtin PySem.F.entry_type_call ?_⟩;rw[Around.under_plain (weight_type_call_type "set" [.ref l] []) rfl];have h1:=PySem.F.called_set.notType;have h2:=PySem.F.called_set.canCreate;have a2:=PySem.F.typeCall_set_1 (.ref l)
 repeat (any_goals (first|assumption|wp_step))
 refine codeAny_mono (a0a (.ref l) (E:=E) (Q₁:=λobj s₁=>obj=.ref s.heap.objs.size/\s₁={s with heap:=s.heap.push {cls:=.type "set",dict:=none,data:=.set #[] 0 (.fresh 0 0 (!w.params.followText "set-order"))}}) ⟨rfl,rfl⟩) λr s₁ f=>?_;cases r with
 |error e=>exact f
 |ok fl =>
  cases fl with
  |ret obj =>
   obtain⟨rfl,rfl⟩:=f;generalize Y:(!w.params.followText "set-order")=led at h;have V:(s.heap.push {cls:=.type "set",dict:=none,data:=.set #[] 0 (.fresh 0 0 led)}).get? s.heap.objs.size=some {cls:=.type "set",dict:=none,data:=.set #[] 0 (.fresh 0 0 led)}:=Heap.get?_push_size _ rfl;have hT:Shared.TypeIs {s with heap:=s.heap.push {cls:=.type "set",dict:=none,data:=.set #[] 0 (.fresh 0 0 led)}} (.ref s.heap.objs.size) "set":=⟨_,V,rfl⟩;have a0:=PySem.F.called_set.init.lookup;have a3:=PySem.F.called_set.init.bind (.ref s.heap.objs.size)
   repeat (any_goals (first|assumption|wp_step))
   refine codeAny_mono (codeAny_call_builtin (R:=wants (λr s₂=>r=.none/\∃h' tk xs,s₂={s with heap:=h',toks:=tk}/\W8 prog w led h' s.heap.objs.size xs/\Came a items.size xs /\
     (∀b o,b<s.heap.objs.size->s.heap.get? b=some o->h'.get? b=some o)) E) PySem.F.called_set.init.plain PySem.F.entry_set_init (check_set_init_1 hT ?_)) λr₂ s₂ hr₂=>?_
   .obtain⟨ol,hol,hcl,nl,hdl⟩:=hl;obtain⟨T,g,I,d⟩:=ol;simp only at hcl hdl;subst hcl;subst hdl;have t:(s.heap.push {cls:=.type "set",dict:=none,data:=.set #[] 0 (.fresh 0 0 led)}).get? l=some {cls:=.type "tuple",dict:=g,data:=.seq items nl,slots:=d}:=Heap.get?_push_of_some _ hol;have S:=a3f;have W:=Z3;have a1:(Value.type "tuple"==Value.type "dict")=false:=by decide
    have n:(s.heap.push {cls:=.type "set",dict:=none,data:=.set #[] 0 (.fresh 0 0 led)}).IsTuple l items:=⟨_,t,rfl,nl,rfl⟩;unfold Builtin.«set.__init__» noKeywords Builtin.Frozenset.updateFrom;generalize K:pyIter=PI
    wp_walk
    subst K;refine wpAny_pyIter_tuple n ?_;refine wpAny_bind (wpAny_runValue ?_);have z:l<s.heap.objs.size:=Heap.lt_size hol;have N:A.in1.in1.in1.handled=none:=by simp[hh]
    have u:l≠(s.heap.push {cls:=.type "set",dict:=none,data:=.set #[] 0 (.fresh 0 0 led)}).objs.size:=by
     rw[Heap.size_push];exact Nat.ne_of_lt (Nat.lt_succ_of_lt z)
    have M:s.heap.objs.size∉[(s.heap.push {cls:=.type "set",dict:=none,data:=.set #[] 0 (.fresh 0 0 led)}).objs.size,l]:=by
     rw[Heap.size_push];simp only[List.mem_cons,List.mem_singleton,List.not_mem_nil,or_false,not_or];exact⟨Nat.ne_of_lt (Nat.lt_succ_self _),Nat.ne_of_gt z⟩
    have y:((s.heap.push {cls:=.type "set",dict:=none,data:=.set #[] 0 (.fresh 0 0 led)}).push {cls:=.type "tuple_iterator",data:=.fields #[.ref l,.int 0 0]}).get? s.heap.objs.size
       = some {cls:=.type "set",dict:=none,data:=.set #[] 0 (.fresh 0 0 led)}:=Heap.get?_push_of_some _ V
    refine a5o (ld:=led) (h0:=s.heap) ((Walks.tuple N _ l u items).toS) s.heap.objs.size M (λb o e=>?_) a p q hn (show A.units+2+10<cLine by omega) (items.size-0) 0 _ [] (by omega) (Nat.zero_le _)
     ⟨⟨_,Heap.get?_push_size _ rfl,rfl,rfl⟩,(n.push _)⟩ (λb o e=>Heap.get?_push_of_some _ (Heap.get?_push_of_some _ e)) (a3B y) ⟨Nat.le_refl _,List.nodup_nil,(λx hx=>nomatch hx),λj Z=>absurd Z (Nat.not_lt_zero j)⟩ ?hR
    .have:=Heap.lt_size e;rw[Heap.size_push];simp only[List.mem_cons,List.not_mem_nil,or_false];exact⟨Nat.ne_of_lt (Nat.lt_succ_of_lt this),Nat.ne_of_lt this⟩
    case hR =>
     intro s' D B m k;obtain⟨h',g',d',G,C⟩:=s';have X:g'=s.gens:=B.gens;have ed:d'=s.drawn:=B.drawn;have eo:C=s.os:=B.os;subst X;subst ed;subst eo;show wpAny _ _ _ _ _ _;refine wpAny_pure ?_;show wpAny _ _ (ret Value.none) _ _ _;refine wpAny_pure ⟨rfl,h',G,D,rfl,m,k,λb o hb e=>?_⟩;have O:b≠s.heap.objs.size:=Nat.ne_of_lt hb;have L:b≠(s.heap.push {cls:=.type "set",dict:=none,data:=.set #[] 0 (.fresh 0 0 led)}).objs.size:=by
      rw[Heap.size_push];exact Nat.ne_of_lt (Nat.lt_succ_of_lt hb)
     exact B.heap b o (by simp only[List.mem_cons,List.mem_singleton,List.not_mem_nil,or_false,not_or];exact⟨O,L⟩) (Heap.get?_push_of_some _ (Heap.get?_push_of_some _ e))
   .cases r₂ with
    |error e=>exact hr₂
    |ok fl₂ =>
     cases fl₂ with
     |ret r =>
      obtain⟨rfl,h',tk,xs,rfl,m,k,J⟩:=hr₂
      repeat (any_goals (first|assumption|wp_step))
      exact h _ _ _ m k J
     |_=>exact hr₂.elim
  |_=>exact f.elim
end
end Tab
end L2
namespace L2
namespace Tab
open PySem PySem.W
theorem a2X{α:Type}:∀(l:List α) (i:Nat) (h:i<l.length),([l[i]]++l.eraseIdx i).Perm l
 |x::l,0,_=>by simp
 |x::l,i+1,h=>by
  have ih:=a2X l i (by simpa using h);simp only[List.getElem_cons_succ,List.eraseIdx_cons_succ,List.singleton_append];exact(List.Perm.swap x (l[i]'(by simpa using h)) _).trans (List.Perm.cons x ih)
theorem a8c{α:Type}(next:Nat->Nat):∀(fuel k:Nat) (left:List α) (out:Array α),left.length=fuel->(pickOrder.go next fuel k left out).toList.Perm (out.toList++left)
 |0,k,left,out,h=>by
  rw[List.length_eq_zero_iff.mp h,List.append_nil];exact List.Perm.refl _
 |fuel+1,k,left,out,h=>by
  unfold pickOrder.go;have hi:next k % left.length<left.length:=Nat.mod_lt _ (by omega)
  rw[List.getElem?_eq_getElem hi];dsimp only;refine(a8c next fuel (k+1) _ _ (by rw[List.length_eraseIdx_of_lt hi];omega)).trans ?_;rw[Array.toList_push,List.append_assoc];exact List.Perm.append_left _ (a2X left _ hi)
theorem a9c{α:Type}(next:Nat->Nat)(xs:Array α):(pickOrder next xs).toList.Perm xs.toList:=by
 have:=a8c next xs.size 0 xs.toList #[] (by simp)
 rw[show(#[]:Array α).toList=[] from rfl,List.nil_append]at this;exact this
theorem slot_seti_next:Slot "set_iterator" "__next__" "set_iterator.__next__" :=
 .of (owner:="set_iterator") (n:="__next__") (by rw[typeLookup_type,builtinLookup_eq_fast];kernel_rfl) (by decide +kernel) (by decide +kernel) (by decide +kernel)
  (by first|exact .inl (by decide +kernel)|exact .inr (by decide +kernel)) (by rw[isSubtype_type];kernel_rfl)
theorem U7:entryFor table "set_iterator.__next__"=some Builtin.«set_iterator.__next__»:=entryFor_of_tree (by kernel_rfl)
theorem W7(a:Value):argsOk "set_iterator.__next__" ⟨[a],[]⟩:=by
 unfold argsOk;kernel_rfl
theorem V3:Slot "set_iterator" "__iter__" "set_iterator.__iter__" :=
 .of (owner:="set_iterator") (n:="__iter__") (by rw[typeLookup_type,builtinLookup_eq_fast];kernel_rfl) (by decide +kernel) (by decide +kernel) (by decide +kernel)
  (by first|exact .inl (by decide +kernel)|exact .inr (by decide +kernel)) (by rw[isSubtype_type];kernel_rfl)
theorem a2Y:entryFor table "set.__iter__"=some Builtin.«frozenset.__iter__» :=
 entryFor_alias (id':="frozenset.__iter__") (by kernel_rfl) rfl (by decide +kernel) (by kernel_rfl)
structure SRaw(h:Heap)(a:Addr)(es:Array (Int×Value))(ep:Nat)(t:SetTable):Prop where
 ex:∃o,h.get? a=some o/\o.ExactSet/\o.data=.set es ep t
 ok:TabOk t es
 plain:t.plain=true
section
variable {prog:Program}{w:World}{A:Around}{E:Value->Shared->Prop}{s:Shared}{a it:Addr}{es:Array (Int×Value)}{ep i:Nat}{t:SetTable}
theorem SRaw.typ(x:SRaw s.heap a es ep t):s.TypeIs (.ref a) "set":=let ⟨o,h1,h2,_⟩:=x.ex;⟨o,h1,h2.1⟩
theorem b1W{Q:Bool->Shared->Prop}(d:s.TypeIs (.ref a) "set")(h:Q false s):wpAny (model prog w) A (Builtin.List.listLengthHint (.ref a)) Q E s:=by
 unfold Builtin.List.listLengthHint;refine wpAny_bind (wpAny_specialOf d PySem.F.slot_set_len.lookup ?_);generalize c:("set.__len__" : String)=e
 wp_delta
 rw[show splitId e=some ("set","__len__")from by subst c;decide +kernel];subst c;refine wpAny_bind (wpAny_isInstance (T:="set") (b:=true) d (by rw[isSubtype_type];kernel_rfl) ?_);refine wpAny_ite_split (λf=>absurd f (by decide)) (λ_=>?_);refine wpAny_ite_split (λ_=>?_) (λf=>absurd (by decide +kernel) f);refine wpAny_bind (wpAny_typeOf d ?_);exact wpAny_pure h
def V5(w:World)(a:Addr)(ep:Nat)(es:Array (Int×Value)):Array (Int×Value):=if w.params.followText "set-order"=true then pickOrder (w.params.setOrder a ep) es else es
theorem ord_perm:(V5 w a ep es).toList.Perm es.toList:=by
 unfold V5;split
 .exact a9c _ _
 .exact List.Perm.refl _
def a1w(w:World)(t:SetTable):Nat->Nat
 |0=>0
 |i+1=>if w.params.followText "set-order"=true then 0 else t.place.getD i 0+1
def SetIt(w:World)(h:Heap)(it a:Addr)(i n ep:Nat)(t:SetTable):Prop:=∃o,h.get? it=some o/\o.cls=.type "set_iterator"/\o.data=.fields #[rawInt (a1w w t i),rawInt i,.ref a,rawInt n,rawInt ep]
theorem b0E{Q:Value->Shared->Prop}(D:SRaw s.heap a es ep t)
  (q:Q (.ref s.heap.objs.size) {s with heap:=s.heap.push {cls:=.type "set_iterator",data:=.fields #[rawInt 0,rawInt 0,.ref a,rawInt es.size,rawInt ep]}}):wpAny (model prog w) A (pyIter (.ref a)) Q E s:=by
 have ty:=D.typ;obtain⟨o,b,_,c⟩:=D.ex;refine wpAny_pyIter_slot ty PySem.F.slot_set_iter (wpAny_call_entry PySem.F.slot_set_iter ty a2Y ?body (PySem.F.args_set_iter_1 _))
 case body =>
  unfold Builtin.«frozenset.__iter__» Builtin.Frozenset.slot0;refine wpAny_bind (wpAny_bind (wpAny_pure (wpAny_pure ?_)));unfold Builtin.Frozenset.sizeOf setEntries;refine wpAny_bind (wpAny_bind (wpAny_bind (wpAny_setState_of b c (G0 D.ok) (wpAny_pure (wpAny_pure ?_)))));unfold setDrawn setsByText;refine wpAny_bind (wpAny_bind (wpAny_setState_of b c (G0 D.ok) ?_));dsimp only;refine wpAny_bind (wpAny_bind (wpAny_askSetting (wpAny_pure (wpAny_pure ?_))));dsimp only;rw[if_neg (λz=>by
   have z2:=(Bool.and_eq_true _ _ ▸ z).2;change (!t.plain && decide (es.size > 1))=true at z2;rw[D.plain]at z2;cases z2)]
  refine wpAny_bind (wpAny_pure ?_);refine wpAny_bind (wpAny_setEpoch_of b c (G0 D.ok) ?_);refine wpAny_bind (wpAny_newObj_type (wpAny_pure ⟨_,rfl,"set_iterator",_,⟨_,Heap.get?_push_size _ rfl,rfl⟩,slot_seti_next.lookup,?_⟩));exact q
theorem SetIt.typ{it a:Addr}{i n ep:Nat}{t:SetTable}(x:SetIt w s.heap it a i n ep t):s.TypeIs (.ref it) "set_iterator":=let ⟨o,h1,h2,_⟩:=x;⟨o,h1,h2⟩
theorem b0B(D:SRaw s.heap a es ep t)(hf:w.params.followText "set-order"=false){i:Nat}(hi:i<=es.size):SetTable.below t.place (a1w w t i)=i:=by
 obtain⟨d,b,c⟩:=G2 D.ok.ris (a1w w t i);have hsz:=D.ok.size;cases i with
 |zero =>
  rcases Nat.eq_zero_or_pos (SetTable.below t.place (a1w w t 0))with z|z
  .exact z
  .have:=b 0 z;exact absurd this (Nat.not_lt_zero _)
 |succ i =>
  have hs:a1w w t (i+1)=t.place.getD i 0+1:=by
   show(if w.params.followText "set-order"=true then 0 else t.place.getD i 0+1)=_;rw[hf,if_neg (by decide)]
  rw[hs]at d b c⊢;rcases Nat.lt_trichotomy (SetTable.below t.place (t.place.getD i 0+1)) (i+1)with z|z|z
  .have:=c i (by omega) (by omega);omega
  .exact z
  .have h1:=b (i+1) z;have h2:=D.ok.ris i (i+1) (by omega) (by omega);omega
theorem a5x(D:SRaw s.heap a es ep t)(c:t.led=!w.params.followText "set-order"){i:Nat}{Q:Option (Value×Nat)->Shared->Prop}(hi:i<=es.size)
  (h:Q ((V5 w a ep es)[i]?.map λe=>(e.2,a1w w t (i+1))) s):wpAny (model prog w) A (setNext a (a1w w t i) i ep) Q E s:=by
 obtain⟨o,d,_,f⟩:=D.ex;unfold setNext setsByText;refine wpAny_bind (wpAny_setState_of d f (G0 D.ok) ?_);dsimp only;refine wpAny_bind (wpAny_bind (wpAny_askSetting (wpAny_pure ?_)));dsimp only;by_cases hf:w.params.followText "set-order"=true
 .rw[if_pos (show(model prog w).w.params.followText "set-order"=true from hf),if_neg (by simp)];unfold setWalk setsByText;refine wpAny_bind (wpAny_bind (wpAny_setState_of d f (G0 D.ok) ?_));dsimp only;refine wpAny_bind (wpAny_bind (wpAny_askSetting (wpAny_pure ?_)));rw[if_pos (show(model prog w).w.params.followText "set-order"=true from hf)];refine wpAny_bind (wpAny_askSetting (wpAny_pure (wpAny_pure ?_)));have h0:∀j,a1w w t j=0:=λj=>by
   cases j with
   |zero=>rfl
   |succ j=>show(if w.params.followText "set-order"=true then 0 else _)=0;rw[if_pos hf]
  rw[h0]at h⊢;unfold V5 at h;rw[if_pos hf]at h;exact h
 .have hf':w.params.followText "set-order"=false:=by simpa using hf
  rw[if_neg (show ¬(model prog w).w.params.followText "set-order"=true from hf)];rw[if_neg (λz=>by
   change (!t.plain && decide (es.size > 1))=true at z;rw[D.plain]at z;cases z)]
  refine wpAny_bind ?_;show wpAny _ _ (if (!t.led && !es.isEmpty)=true then _ else pure ()) _ _ _;rw[if_neg (by rw[c,hf'];simp)];refine wpAny_pure (wpAny_pure ?_);rw[b0B D hf' hi];unfold V5 at h;rw[if_neg hf]at h;by_cases b:i<es.size
  .have hp:=a0z (xs:=t.place) (i:=i) (by rw[D.ok.size];exact b);rw[hp];have hs:a1w w t (i+1)=t.place.getD i 0+1:=by
    show(if w.params.followText "set-order"=true then 0 else t.place.getD i 0+1)=_;rw[hf',if_neg (by decide)]
   rw[hs]at h;rw[Array.getElem?_eq_getElem b]at h⊢;exact h
  .rw[Array.getElem?_eq_none (by omega)]at h⊢;exact h
theorem a8M{it:Addr}{i:Nat}{Q:Option Value->Shared->Prop}(I:SetIt w s.heap it a i es.size ep t)(D:SRaw s.heap a es ep t)(c:t.led=!w.params.followText "set-order")(hi:i<es.size){v:Int×Value}(j:(V5 w a ep es)[i]?=some v)
  (q:∀h',SetIt w h' it a (i+1) es.size ep t->Heap.SameBut it s.heap h'->Q (some v.2) {s with heap:=h'}):wpAny (model prog w) A (pyNext (.ref it)) Q E s:=by
 obtain⟨h,f1,f2,b⟩:=id I;obtain⟨od,f,k,g⟩:=D.ex;unfold pyNext;refine wpAny_bind (wpAny_attempt (wpAny_callSpecial?_slot (name:=Str.ofString "__next__") I.typ slot_seti_next (wpAny_call_entry slot_seti_next I.typ U7 ?body (W7 _))))
 case body =>
  unfold Builtin.«set_iterator.__next__»;refine wpAny_bind (wpAny_pure (wpAny_bind (wpAny_fieldsOf f1 b ?_)));dsimp only[rawInt];unfold setEntries;refine wpAny_bind (wpAny_bind (wpAny_setState_of f g (G0 D.ok) (wpAny_pure ?_)));rw[if_neg (by simp)];simp only[Int.toNat_natCast];refine wpAny_bind (a5x D c (Nat.le_of_lt hi) ?_);rw[j];dsimp only[Option.map];have e:(s.heap.update it (Obj.mapFields λz=>z.setIfInBounds 0 (.int (a1w w t (i+1)) 0))).get? it=some (Obj.mapFields (λz=>z.setIfInBounds 0 (.int (a1w w t (i+1)) 0)) h):=Heap.get?_update_self _ f1 (Obj.isFreed_of_fields (Obj.data_mapFields b _));have d:=Obj.data_mapFields b (λz=>z.setIfInBounds 0 (.int (a1w w t (i+1)) 0));refine wpAny_bind (wpAny_setField f1 b (by simp) ?_);refine wpAny_bind (wpAny_setField (s:={s with heap:=_}) e d (by simp) ?_);refine wpAny_pure ⟨_,rfl,wpAny_pure (q _ ⟨_,Heap.get?_update_self _ e (Obj.isFreed_of_fields (Obj.data_mapFields d _)),?_,?_⟩ ((Heap.SameBut.update ..).trans (Heap.SameBut.update ..)))⟩
  .rw[Obj.cls_mapFields,Obj.cls_mapFields];exact f2
  .rw[Obj.data_mapFields d];simp[rawInt]
theorem b0D{it:Addr}{Q:Option Value->Shared->Prop}(g:A.handled=none)(I:SetIt w s.heap it a es.size es.size ep t)(D:SRaw s.heap a es ep t)(c:t.led=!w.params.followText "set-order")
  (q:∀h',Heap.ExtBut it s.heap h'->Q none {s with heap:=h'}):wpAny (model prog w) A (pyNext (.ref it)) Q E s:=by
 obtain⟨i,f1,f2,d⟩:=id I;obtain⟨od,e,h,f⟩:=D.ex;unfold pyNext;refine wpAny_bind (wpAny_attempt (wpAny_callSpecial?_slot (name:=Str.ofString "__next__") I.typ slot_seti_next (wpAny_call_entry slot_seti_next I.typ U7 ?body (W7 _))))
 case body =>
  unfold Builtin.«set_iterator.__next__»;refine wpAny_bind (wpAny_pure (wpAny_bind (wpAny_fieldsOf f1 d ?_)));dsimp only[rawInt];unfold setEntries;refine wpAny_bind (wpAny_bind (wpAny_setState_of e f (G0 D.ok) (wpAny_pure ?_)));rw[if_neg (by simp)];simp only[Int.toNat_natCast];refine wpAny_bind (a5x D c (Nat.le_refl _) ?_);have hsz:(V5 w a ep es).size=es.size:=by rw[<-Array.length_toList,ord_perm.length_eq,Array.length_toList]
  rw[Array.getElem?_eq_none (by omega)];dsimp only[Option.map];refine wpAny_bind (wpAny_setField f1 d (by simp) ?_);show wpAny _ _ (newExc (.type "StopIteration") []>>=λ_=>_) _ _ _;refine wpAny_bind ?_;simp only[newExc,newTuple];refine wpAny_bind (wpAny_newObj_type ?_ (by size_fits));refine wpAny_bind (m:=firstArgMember _ _) (wpAny_of_eq (a:=Value.none) (by first|rfl | (simp only[firstArgMember];rfl)) ?_);refine wpAny_newObj_type ?_ (by size_fits);simp only[raiseNew];refine wpAny_bind (wpAny_handled ?_);rw[show A.in1.handled=none from g];refine wpAny_bind (wpAny_pure (wpAny_throw ?_));refine wpAny_bind (wpAny_isInstance (T:="StopIteration") (b:=true) ⟨_,Heap.get?_push_size _ rfl,rfl⟩ isSubtype_stop ?_);exact wpAny_pure (q _ (((Heap.SameBut.update ..).extBut.push _).push _))
theorem SetIt.at{h h':Heap}{it a:Addr}{i n ep:Nat}{t:SetTable}(x:SetIt w h it a i n ep t)(k:∀o,h.get? it=some o->h'.get? it=some o):SetIt w h' it a i n ep t:=let ⟨o,h1,h2⟩:=x;⟨o,k o h1,h2⟩
theorem SRaw.to{h h':Heap}(x:SRaw h a es ep t)(k:∀o,h.get? a=some o->h'.get? a=some o):SRaw h' a es ep t:=⟨let ⟨o,h1,h2⟩:=x.ex;⟨o,k o h1,h2⟩,x.ok,x.plain⟩
theorem a1F:entryFor table "set_iterator.__iter__"=some Builtin.«dict_keyiterator.__iter__» :=
 entryFor_alias (id':="dict_keyiterator.__iter__") (by kernel_rfl) rfl (by decide +kernel) (by kernel_rfl)
theorem a3d(a:Value):argsOk "set_iterator.__iter__" ⟨[a],[]⟩:=by
 unfold argsOk;kernel_rfl
theorem a8L{it:Addr}{i n:Nat}{Q:Value->Shared->Prop}(I:SetIt w s.heap it a i n ep t)(h:Q (.ref it) s):wpAny (model prog w) A (pyIter (.ref it)) Q E s:=by
 refine wpAny_pyIter_slot I.typ V3 (wpAny_call_entry V3 I.typ a1F ?_ (a3d _));show wpAny _ _ (ret (.ref it)) _ _ s;exact wpAny_pure ⟨_,rfl,"set_iterator",_,I.typ,slot_seti_next.lookup,h⟩
theorem b1k:(V5 w a ep es).size=es.size:=by rw[<-Array.length_toList,ord_perm.length_eq,Array.length_toList]
theorem a8N(m:A.handled=none)(J:Addr)(g:a≠J)(c:t.led=!w.params.followText "set-order") :
  Walks prog w A J [J,a] [J] es.size (λi v=>∃e,(V5 w a ep es)[i]?=some e/\v=e.2) (λi h=>SetIt w h J a i es.size ep t/\SRaw h a es ep t) where
 sub:=λb hb=>by rw[List.mem_singleton.mp hb];exact List.mem_cons_self
 frame:=λi h h' st j=>⟨st.1.at λo e=>j J List.mem_cons_self o e,st.2.to λo e=>j a (List.mem_cons_of_mem _ List.mem_cons_self) o e⟩
 item:=λi s Q E hi st d=>by
  have f:i<(V5 w a ep es).size:=by rw[b1k];exact hi
  exact a8M st.1 st.2 c hi (Array.getElem?_eq_getElem f) λh' k sb=>d _ h' s.toks ⟨_,Array.getElem?_eq_getElem f,rfl⟩ ⟨k,st.2.to λo e=>sb.extBut a o g e⟩ λb o hb e=>sb.extBut b o (λz=>hb (by rw[z];exact List.mem_cons_self)) e
 done:=λs Q E st d=>b0D m st.1 st.2 c λh' l=>d h' s.toks λb o hb e=>l b o (λz=>hb (by rw[z];exact List.mem_cons_self)) e
 self:=λ_ _ _ _ st d=>a8L st.1 d
theorem SRaw.lt{h:Heap}(x:SRaw h a es ep t):a<h.objs.size:=let ⟨_,h1,_⟩:=x.ex;Heap.lt_size h1
theorem b2U(b:t.led=!w.params.followText "set-order"):KdlSrc prog w "set" a a es.size (λi v=>∃e,(V5 w a ep es)[i]?=some e/\v=e.2) (λh=>SRaw h a es ep t) where
 type:=λ_ D=>D.typ
 there:=λ_ D=>⟨D.lt,D.lt⟩
 keep:=λ_ _ D d=>D.to λo e=>d a (.inl rfl) o e
 notList:=by decide
 notTuple:=by decide
 hint:=λ_ _ _ _ D q=>b1W D.typ q
 iter:=λ_ _ c D=>⟨_,_,λ_ _ q=>b0E D q,a8N c _ (Nat.ne_of_lt D.lt) b,⟨⟨_,Heap.get?_push_size _ rfl,rfl,rfl⟩,D.to λo e=>Heap.get?_push_of_some _ e⟩⟩
end
end Tab
end L2
namespace L2
open PySem PySem.Spec PyProof.Rows PySem.W Tab
def a4q(P:Program)(w:World)(a:Addr)(xs:List (List Int×Addr)):HO:=.ext λh=>∃es ep t,SRaw h a es ep t/\es.toList.Perm (xs.map (Tab.ent P w))/\t.led=!w.params.followText "set-order"
theorem b4B{P:Program}{w:World}{H:Hp}{h:Heap}(ok:HOk P w H h){r:List Int}{b:Addr}(x:IT H (.ref b) r):TK P w h r b:=by
 obtain⟨a,e,q⟩:=x;cases e;obtain⟨_,its,c,o,h1,h2,n,d⟩:=(show ObjOk P w H h b (.tup (r.map V.int))from ok b _ q);refine⟨o,its.toArray,n,h1,h2,d,?_⟩;have:∀{r:List Int}{its:List Value},Vals (r.map V.int) its->ItemsAre (intKind P w) r its:=by
  intro r;induction r with
  |nil=>intro its c;cases c;exact .nil
  |cons x r ih =>
   intro its c;cases c with
   |cons h t =>
    obtain⟨tk,rfl⟩:=h;exact .cons (intKind_is _ _ _ _) (ih t)
 simpa using this c
def b4J(K:PySem.W.Frag)(P:Program)(w:World):RL:=λys H Q=>∃(k:Bool) (p:Addr) (vs:List V) (rss:LLI),ys=[.ref p]/\SqK k K H p vs/\Its H vs rss/\vs.length<=1000 /\
 ∀a xs,H a=none->(xs.map (·.1)).Nodup->(∀r,r∈xs.map (·.1)↔r∈rss)->(∀x∈xs,IT H (.ref x.2) x.1)->Q (.ref a) (upd H a (a4q P w a xs))
def b0P(P:Program)(w:World):RL:=λys H Q=>∃(a:Addr) (xs:List (List Int×Addr)),ys=[.ref a]/\H a=some (a4q P w a xs)/\(∀x∈xs,IT H (.ref x.2) x.1)/\(∀x∈xs,0<x.1.length)/\xs.length<=1000 /\
 ∀l zs tss,H l=none->Its H zs tss->tss.Perm (xs.map (·.1))->C9 tss->Q (.ref l) (upd H l (.lst zs))
section
variable {X:Cx}
theorem a9M(K:PySem.W.Frag)(P:Program)(w:World)(hu:X.A.units+60<cLine)(hc:X.calm=true)(hK:X.K=K:=by rfl)(hP:X.prog=P:=by rfl)(hw:X.w=w:=by rfl):D0 X (.type "set") (b4J K P w):=by
 subst hK hP hw;intro pins s σ H ys us Q I Z h;obtain⟨k,p,vs,rss,rfl,R,hI,hn,q⟩:=h;obtain⟨u,rfl,E⟩:=Z.one;cases E;have N:X.A.handled=none:=I.ok.hd hc;have step:∀(its:List Value),Vals vs its->∀(h':Heap) (tk:Nat) (xs:List (List Int×Addr)) (c:Nat->List Int×Addr),(∀i,i<its.toArray.size->rss[i]?=some (c i).1/\IT H (.ref (c i).2) (c i).1) ->
   W8 X.prog X.w (!X.w.params.followText "set-order") h' s.heap.objs.size xs->Came c its.toArray.size xs->(∀b o,b<s.heap.objs.size->s.heap.get? b=some o->h'.get? b=some o)->EP X pins σ Q (.ref s.heap.objs.size) {s with heap:=h',toks:=tk}:=by
  intro its r h' tk xs c d C l n;obtain⟨o,es,ep,t,O,e2,S,Y,e5,V,e7,e8,U⟩:=C;have y:its.toArray.size=rss.length:=by rw[<-hI.1,r.length];simp
  have F:H s.heap.objs.size=none:=I.hok.fresh (Nat.le_refl _);have G:∀x∈xs,IT H (.ref x.2) x.1:=λx J=>by
   obtain⟨j,m,rfl⟩:=l.from_ x J;exact(d j m).2
  refine⟨.ref s.heap.objs.size,_,I.laid (h':=h') (a:=s.heap.objs.size) (o:=a4q X.prog X.w s.heap.objs.size xs) (t':=tk) (λb o e=>n b o (Heap.lt_size e) e) (Nat.le_refl _) ⟨⟨es,ep,t,⟨⟨o,O,e2,S⟩,e5,V⟩,Y,U⟩,⟨o,O⟩,λh1 h2 ⟨es,ep,t,q1,q2⟩ kk=>⟨es,ep,t,q1.to kk,q2⟩⟩,rfl,q _ xs F l.nd (λr=>?_) G⟩;constructor
  .intro hr;obtain⟨x,J,rfl⟩:=List.mem_map.mp hr;obtain⟨j,m,rfl⟩:=l.from_ x J;exact List.mem_of_getElem? (d j m).1
  .intro hr;obtain⟨j,m⟩:=List.mem_iff_getElem?.mp hr;have B:j<its.toArray.size:=by rw[y];exact(List.getElem?_eq_some_iff.mp m).1
   have h1:=(d j B).1;rw[m]at h1;injection h1 with h1
   rw[h1];exact l.all j B
 have f:∀(its:List Value),Vals vs its->∃c:Nat->List Int×Addr,(∀i v,i<its.toArray.size->its.toArray[i]?=some v->v=.ref (c i).2)/\∀i,i<its.toArray.size->rss[i]?=some (c i).1/\IT H (.ref (c i).2) (c i).1:=by
  intro its r;have g:∀i,∃x:List Int×Addr,i<its.toArray.size->(∀v,its.toArray[i]?=some v->v=.ref x.2)/\rss[i]?=some x.1/\IT H (.ref x.2) x.1:=λi=>by
   by_cases hi:i<its.toArray.size
   .have hi':i<vs.length:=by rw[r.length];simpa using hi
    obtain⟨u,eu,E⟩:=r.get (List.getElem?_eq_getElem hi');obtain⟨row,er,b,T,hb⟩:=hI.2 i _ (List.getElem?_eq_getElem hi');rw[T]at E;cases E;refine⟨(row,b),λ_=>⟨λv L=>?_,er,b,rfl,hb⟩⟩;have:its[i]?=some v:=by simpa using L
    rw[eu]at this;injection this with this
    exact this.symm
   .exact⟨([],0),λz=>absurd z hi⟩
  exact⟨λi=>Classical.choose (g i),λi v hi L=>(Classical.choose_spec (g i) hi).1 v L,λi hi=>(Classical.choose_spec (g i) hi).2⟩
 cases k
 .obtain⟨its,r,pl,hz⟩:=I.list R;obtain⟨c,M,D⟩:=f its r;exact a3p N pl.isList M (λi hi=>b4B I.hok (D i hi).2) (by have:=r.length;simp;omega) (by omega) λh' tk xs C l n=>step its r h' tk xs c D C l n
 .obtain⟨its,r,pl,hz⟩:=I.tuple R;obtain⟨c,M,D⟩:=f its r;exact a3a N pl M (λi hi=>b4B I.hok (D i hi).2) (by have:=r.length;simp;omega) (by omega) λh' tk xs C l n=>step its r h' tk xs c D C l n
theorem a7o(P:Program)(w:World)(hc:X.calm=true)(hP:X.prog=P:=by rfl)(hw:X.w=w:=by rfl):D0 X (.builtin "sorted") (b0P P w):=by
 subst hP hw;intro pins s σ H ys us Q I rv h;obtain⟨a,xs,rfl,ha,N,U,hn,q⟩:=h;obtain⟨u,rfl,ru⟩:=rv.one;cases ru;obtain⟨⟨es,ep,t,D,z,M⟩,_⟩:=(show ObjOk X.prog X.w H s.heap a (a4q X.prog X.w a xs)from I.hok _ _ ha);obtain⟨d,G,te⟩:=M4 (f:=Tab.ent X.prog X.w) ((ord_perm (w:=X.w) (a:=a) (ep:=ep)).trans z) rfl;have F:∀x∈d,x∈xs:=λx B=>G.mem_iff.mp B;have g:es.size=d.length:=by rw[<-Array.length_toList,z.length_eq,List.length_map,G.length_eq]
 have hI:Its H (d.map λx=>V.ref x.2) (d.map (·.1)):=⟨by rw[List.length_map,List.length_map],λi v e=>by
  rw[List.getElem?_map]at e⊢;cases m:d[i]? with
  |none=>rw[m]at e;cases e
  |some x =>
   rw[m]at e;cases e;exact⟨x.1,rfl,N x (F x (List.mem_of_getElem? m))⟩⟩
 have ri:Vals (d.map λx=>V.ref x.2) (d.map λx=>Value.ref x.2):=a0L (λx:List Int×Addr=>x.2) d;have hz:(1000:Nat)<=sizeLine:=by rw[sizeLine_eq];decide
 have a0:d.length<=1000:=by rw[G.length_eq];exact hn
 have C:∀(E':Value->Shared->Prop) (O:List Value->Shared->Prop),(∀(h1:Heap) (tk:Nat),(∀b o,s.heap.get? b=some o->h1.get? b=some o)->O (d.map λx=>Value.ref x.2) {s with heap:=h1,toks:=tk})->wpAny (model X.prog X.w) X.A.in1 (collect (.ref a)) O E' s:=λE' O k=>by
  refine kdu_collect (b2U M) (show X.A.in1.handled=none from I.ok.hd hc) D (by omega) λh' tk l kp j=>?_;have:l.toList=d.map λx=>Value.ref x.2:=by
   refine List.ext_getElem? λi=>?_;rw[Array.getElem?_toList,List.getElem?_map];by_cases hi:i<d.length
   .have hia:i<l.size:=by rw[j.1,g];exact hi
    obtain⟨e,J,R⟩:=j.2 i l[i] (by simp[hia]);rw[<-Array.getElem?_toList,<-te,List.getElem?_map,List.getElem?_eq_getElem hi]at J;injection J with J
    rw[Array.getElem?_eq_getElem hia,List.getElem?_eq_getElem hi,R,<-J];rfl
   .rw[Array.getElem?_eq_none (by rw[j.1,g];omega),List.getElem?_eq_none (by omega)];rfl
  rw[this];exact k h' tk kp
 have hl:=ri.length;have TT:=a2M I hI ri;obtain⟨T,t1,t2,t3,t4⟩:=W9 ri hI.1;refine U8 C TT (λr hr=>by obtain⟨x,B,rfl⟩:=List.mem_map.mp hr;exact U x (F x B)) (by rw[List.length_map];omega) λh1 h' os c tk k1 k2 e hp hs=>?_;obtain⟨n,p1,p2⟩:=M4 (f:=λt:Value×V×List Int=>t.1) hp t1.symm;have Z:=I.kept (t':=tk) k1;have K:∀t∈n,RelV t.2.1 t.1/\IT H t.2.1 t.2.2/\E7 s.heap t.1=t.2.2:=λt S=>by
  obtain⟨i,hi⟩:=List.mem_iff_getElem?.mp (p1.mem_iff.mp S);obtain⟨r1,r2,W⟩:=t4 i t hi;obtain⟨row,q1,q2⟩:=hI.2 i _ r2;rw[W]at q1;cases q1;have e5:(d.map λx=>Value.ref x.2)[i]?=some t.1:=by rw[<-t1,List.getElem?_map,hi];rfl
  obtain⟨r',b,its',f1,f2,f3,f4⟩:=TT.2 i _ e5;rw[W]at f1;cases f1;exact⟨r1,q2,by rw[f2];exact C6 f3 f4⟩
 have L:(n.map (·.2.1)).length<=sizeLine:=by
  have Y:=(p1.map (λt:Value×V×List Int=>t.2.1)).length_eq;rw[t2]at Y;simp only[List.length_map]at Y⊢;omega
 have R:Vals (n.map (·.2.1)) os:=by rw[<-p2];exact N8 λt S=>(K t S).1
 have I2:=Z.laid (h':=h') (a:=h1.objs.size) (o:=.lst (n.map (·.2.1))) (t':=tk) k2 (Nat.le_refl _) ⟨L,os,c,R,e⟩;refine⟨.ref h1.objs.size,_,I2,rfl,q _ _ (n.map (·.2.2)) (Z.hok.fresh (Nat.le_refl _)) ⟨by rw[List.length_map,List.length_map],λi v p=>?_⟩ (by have:=p1.map (λt:Value×V×List Int=>t.2.2);rw[t3]at this;exact this.trans (G.map _)) ?_⟩
 .rw[List.getElem?_map]at p⊢;cases m:n[i]? with
  |none=>rw[m]at p;cases p
  |some t =>
   rw[m]at p;cases p;exact⟨t.2.2,rfl,(K t (List.mem_of_getElem? m)).2.1⟩
 .unfold C9;rw[List.pairwise_map];rw[<-p2,List.pairwise_map]at hs;refine hs.imp_of_mem λ{x y} B hy E=>?_;rw[(K x B).2.2,(K y hy).2.2]at E;exact E
variable {e:Expr}{es:List Expr}{t:TA}{p pos:Pos}
theorem b3Z(K:PySem.W.Frag)(P:Program)(w:World)(b:X.A.units+60<cLine)(f:Gl X "set")(c:X.mg "set"=none)(ha:JA X (e::es) t)(hc:X.calm=true:=by rfl)(d:X.K=K:=by rfl)(i:X.prog=P:=by rfl)(hw:X.w=w:=by rfl)(g:starEach (e::es) X.env=(false,eval e X.env)::starEach es X.env:=by rfl)(a:(backTo pos (starEach es X.env)).any (·.1)=false:=by rfl):JE X (.Call (.Name "set" p) (e::es) [] pos) (tCB (b4J K P w) t):=⟨Q8 (a9M K P w b hc d i hw) f c b6K ha.h (by decide) (by decide) g a⟩
theorem b1N(P:Program)(w:World)(c:Gl X "sorted")(b:X.mg "sorted"=none)(ha:JA X (e::es) t)(hc:X.calm=true:=by rfl)(f:X.prog=P:=by rfl)(hw:X.w=w:=by rfl)(d:starEach (e::es) X.env=(false,eval e X.env)::starEach es X.env:=by rfl)(a:(backTo pos (starEach es X.env)).any (·.1)=false:=by rfl):JE X (.Call (.Name "sorted" p) (e::es) [] pos) (tCB (b0P P w) t):=⟨E9 (a7o P w hc f hw) c b a1f ha.h (by decide) (by decide) d a⟩
end
end L2
namespace L2
open PySem PySem.Spec PyProof.Rows
theorem a2G:typeLookup (.type "list") "keys"=pure none:=by rw[typeLookup_type,builtinLookup_eq_fast];kernel_rfl
theorem a3S:entryFor table "dict.update.loop"=some Builtin.«dict.update.loop»:=entryFor_of_tree (by kernel_rfl)
theorem X7:plainId "dict.update.loop"=true:=by decide +kernel
section
variable {prog:Program}{w:World}{A:Around}{E:Value->Shared->Prop}{s:Shared}
theorem b3S{a:Addr}{o:Obj}{xs:Array Value}{k:Nat}{Q:Option Value->Shared->Prop}
  (m:s.heap.get? a=some o) (hc:o.cls=.type "list") (f:o.data=.seq xs k) (hd:o.dict=none) (t:A.handled=none)
  (h:∀h' tk,(∀b n,s.heap.get? b=some n->h'.get? b=some n)->Q none {s with heap:=h',toks:=tk}):wpAny (model prog w) A (getAttr? (.ref a) "keys") Q E s:=by
 obtain⟨c,q,r,sl⟩:=o;simp only at hc f hd;subst hc f hd;obtain⟨hp,g,d,tk,os⟩:=s;have p:∀l,(⟨hp,g,d,l,os⟩:Shared).TypeIs (.ref a) "list":=λ_=>⟨_,m,rfl⟩;have f1:=sub_AttributeError;have u:=PySem.F.slot_list_getattribute.lookup;have v:=PySem.F.slot_list_getattribute.bind (.ref a);have x:=am_list_getattr_none;have hsz:(Str.ofString "keys").length+100<=sizeLine:=by rw[sizeLine_eq];decide
 have i:(["__module__","__name__","__qualname__","__doc__","__annotations__"]:List Str).contains "keys"=false:=by decide +kernel
 unfold getAttr? getAttrBy? getAttrBy
 repeat (any_goals (first|assumption|exact p _ | ((with_reducible show wpAny _ _ (call (Value.builtin "list.__getattribute__") _ _) _ _ _);refine call_meets PySem.F.slot_list_getattribute (p _) am_entry_list_getattribute (PySem.F.args_list_getattribute_2 _ _) (meets_getattribute_miss_list a xs k sl "keys" _ a2G i hsz) ⟨m,t,λh' l e j=>?_⟩)|wp_step))
 obtain⟨t',z,y⟩:=j.there;show wpAny _ _ (getattributeRaised _ _ _ _ _ _ _) _ _ _;unfold getattributeRaised
 repeat (any_goals (first|assumption|wp_step))
 exact h _ _ j.keeps
theorem a5Y{h h':Heap}{ks:List Key}{a:Addr}(k:∀b o,h.get? b=some o->h'.get? b=some o)(x:(tupleKind (B5 prog w)).is h ks a):(tupleKind (B5 prog w)).is h' ks a:=by
 obtain⟨o,its,n,h1,r⟩:=x;exact⟨o,its,n,k _ _ h1,r⟩
def b5d(prog:Program)(w:World)(h:Heap)(d:Addr)(xs:List (List Key×Addr×Value)):Prop :=
 ∃o es ep,h.get? d=some o/\o.ExactDict/\o.data=.dict es ep/\es.toList=xs.map (entryOfKey (tupleKind (B5 prog w)))/\(xs.map (·.1)).Nodup
theorem b2i{R:Result->Shared->Prop}{s0:Heap}{d it l:Addr}{items:Array Value}(j:d≠it)(I:s0.get? d=none)(r:s0.get? it=none)(hl:s0.IsList l items)(hh:A.handled=none)(H:A.units+10<cLine)(hz:items.size<=sizeLine)
  (J:Nat->List (List Key×Addr×Value)->Prop)
  (D:∀i,i<items.size->∃p k a v,items[i]?=some (.ref p)/\IsTup s0 p #[.ref a,v]/\(tupleKind (B5 prog w)).is s0 k a/\∀xs,J i xs->xs.length<=i/\(∀x∈xs,(tupleKind (B5 prog w)).is s0 x.1 x.2.1)/\J (i+1) (storedH xs k a v)) :
  ∀(n i:Nat) (s:Shared) (xs:List (List Key×Addr×Value)),items.size-i=n->i<=items.size->(∀b o,s0.get? b=some o->s.heap.get? b=some o)->s.heap.IsListIter it l i->b5d prog w s.heap d xs->J i xs ->
  (∀h' tk g,(∀b o,s0.get? b=some o->h'.get? b=some o)->b5d prog w h' d g->J items.size g->R (.ok (.ret .none)) {s with heap:=h',toks:=tk}) ->
  codeAny (model prog w) A (.builtin "dict.update.loop" ⟨[.ref d,.ref it,rawInt i,.none],[]⟩) R s:=by
 intro n;induction n with
 |zero =>
  intro i s xs X hi m c M E hR;have G:i=items.size:=by omega
  subst G;refine codeAny_builtin a3S ?_;rw[Around.under_plainId X7 _];show wpAny _ A.in1 (pyNext (.ref it)>>=_) _ _ s;have h:s.heap.IsList l items:=let ⟨o,h1,h2⟩:=hl;⟨o,m _ _ h1,h2⟩
  refine wpAny_bind (wpAny_pyNext_list_end hh c h (by simp) λh' U=>?_);show wpAny _ _ (Builtin.Dict.addKeywords d []>>=_) _ _ _;refine wpAny_bind (wpAny_pure (wpAny_pure ?_));obtain⟨o,es,ep,Q,C⟩:=M;exact hR h' s.toks xs (λb T e=>U b T (λz=>by rw[z,r]at e;cases e) (m b T e)) ⟨o,es,ep,U _ _ j Q,C⟩ E
 |succ n ih =>
  intro i s xs X hi m c M E hR;have q:i<items.size:=by omega
  obtain⟨p,k,a,v,hp,hT,hK,hJ⟩:=D i q;obtain⟨a0,K,hJ⟩:=hJ xs E;refine codeAny_builtin a3S ?_;rw[Around.under_plainId X7 _];show wpAny _ A.in1 (pyNext (.ref it)>>=_) _ _ s;have h:s.heap.IsList l items:=let ⟨o,h1,h2⟩:=hl;⟨o,m _ _ h1,h2⟩
  refine wpAny_bind (wpAny_pyNext_list_item c h hp λh1 S t=>?_);have f:∀b o,s0.get? b=some o->h1.get? b=some o:=λb o e=>t.extBut b o (λz=>by rw[z,r]at e;cases e) (m b o e);obtain⟨o,es,ep,Q,C,g3,g4,g5⟩:=M;have F:h1.DictOfH (tupleKind (B5 prog w)) d xs:=⟨o,es,ep,t.extBut _ _ j Q,C,g3,g4,λx hx=>a5Y f (K x hx),g5⟩;obtain⟨op,y,N,np,hp3⟩:=hT;show wpAny _ A.in1 (holding [.ref p] _>>=_) _ _ _;refine wpAny_bind (wpAny_holding (wpAny_bind (wpAny_tryCatch ?_)));unfold Builtin.Dict.pairItems;refine wpAny_bind (wpAny_typeOf (s:={s with heap:=h1}) ⟨op,f _ _ y,N⟩ ?_);rw[if_pos (by decide)];refine wpAny_bind (wpAny_seqItems (s:={s with heap:=h1}) (f _ _ y) hp3 (wpAny_pure ?_));show wpAny _ _ (holding [.ref a,v] (dictSet d (.ref a) v)) _ _ _;refine wpAny_holding (wpAny_dictSet_heap (s:={s with heap:=h1}) (knd:=tupleKind (B5 prog w)) (hsz:=by omega) (show A.units+1<cLine by omega) (a5Y f hK) F λh2 L u=>?_);refine wpAny_pure ⟨plainId_quiet X7 _,?_⟩;have B:∀b o,s0.get? b=some o->h2.get? b=some o:=λb o e=>u.extBut b o (λz=>by rw[z,I]at e;cases e) (f b o e);obtain⟨o',O,P,q1,q2,Z,V,_,Y⟩:=L;exact ih (i+1) _ _ (by omega) q B (S.extBut u.extBut (Ne.symm j)) ⟨o',O,P,q1,q2,Z,V,Y⟩ hJ λh' tk g e1 e2 W=>hR h' tk g e1 e2 W
end
def PrT(H:Hp)(ps:List V)(rss:LLI):Prop:=ps.length=rss.length/\∀(i:Nat) (q:V),ps[i]?=some q->∃(r:List Int) (b:Addr) (v y:V),rss[i]?=some r/\q=.ref b/\H b=some (.tup [v,y])/\IT H v r
theorem PrT.same{H H':Hp}{ps:List V}{rss:LLI}(h:PrT H ps rss)(s:Same H H'):PrT H' ps rss :=
 ⟨h.1,λi q e=>let ⟨r,b,v,y,e1,e2,e3,e4⟩:=h.2 i q e;⟨r,b,v,y,e1,e2,s _ _ e3,e4.same s⟩⟩
theorem PrT.nil{H:Hp}:PrT H [] []:=⟨rfl,λi q e=>by simp at e⟩
theorem PrT.snoc{H:Hp}{ps:List V}{rss:LLI}{r:List Int}{b:Addr}{v y:V}(h:PrT H ps rss)(hb:H b=some (.tup [v,y]))(c:IT H v r):PrT H (ps++[.ref b]) (rss++[r]):=by
 refine⟨by simp[h.1],λi q e=>?_⟩;rw[List.getElem?_append]at e;rw[List.getElem?_append,<-h.1];split at e
 .rename_i hi;rw[if_pos hi];exact h.2 i q e
 .rename_i hi;rw[if_neg hi];cases a:i-ps.length with
  |zero =>
   rw[a]at e;cases e;exact⟨r,b,v,y,rfl,rfl,hb,c⟩
  |succ j=>rw[a]at e;simp at e
theorem a1T(r:List Int):(r.map (Sum.inl:Int->Key)).map kV=r.map V.int:=by
 rw[List.map_map];rfl
theorem b6y{kvs:List (List Key×V)}{rss:LLI}{r:List Int}(g:kvs.map (·.1)=IK rss)(f:r∉rss):Q0 kvs (r.map Sum.inl)=none:=by
 rw[<-Option.not_isSome_iff_eq_none,Bool.not_eq_true,<-P9,List.any_eq_false];intro d c e;have e:=of_decide_eq_true e;have:d.1∈IK rss:=by rw[<-g];exact List.mem_map.mpr ⟨d,c,rfl⟩
 obtain⟨h,h1,h2⟩:=List.mem_map.mp this;rw[e]at h2;have inj:∀{a b:List Int},a.map (Sum.inl:Int->Key)=b.map Sum.inl->a=b:=λ{a b} z=>by
  have:=congrArg (List.map kV) z;rw[a1T,a1T]at this;exact map_int_inj.mp this
 exact f (inj h2 ▸ h1)
section
variable {X:Cx}
variable {e:Expr}{es:List Expr}{t:TA}{p pos:Pos}
end
structure Onc(mss rss:LLI):Prop where
 nd:mss.Nodup
 mem:∀r,r∈mss↔r∈rss
 le:mss.length<=rss.length
theorem Onc.new{c rss:LLI}{r:List Int}(h:Onc c rss)(d:r∉c):Onc (c++[r]) (rss++[r]):=by
 refine⟨List.nodup_append.mpr ⟨h.nd,by simp,λa ha b hb e=>?_⟩,λq=>?_,?_⟩
 .rw[List.mem_singleton.mp hb]at e;rw[e]at ha;exact d ha
 .rw[List.mem_append,List.mem_append,h.mem]
 .rw[List.length_append,List.length_append];have:=h.le;show _+1<=_+1;omega
theorem Onc.old{a rss:LLI}{r:List Int}(h:Onc a rss)(b:r∈a):Onc a (rss++[r]):=by
 refine⟨h.nd,λq=>?_,?_⟩
 .rw[List.mem_append,List.mem_singleton,h.mem];exact⟨.inl,λz=>z.elim id λe=>by rw[e];exact(h.mem r).mp b⟩
 .rw[List.length_append];have:=h.le;omega
def b0S:RL:=λxs H Q=>∃(l:Addr) (ps:List V) (rss:LLI),xs=[.ref l]/\H l=some (.lst ps)/\PrT H ps rss/\∀d kvs mss,H d=none->kvs.map (·.1)=IK mss->Onc mss rss->Q (.ref d) (upd H d (.dT kvs))
section
variable {X:Cx}
theorem a7s(hu:X.A.units+60<cLine)(hc:X.calm=true):D0 X (.type "dict") b0S:=by
 intro pins s σ H xs us Q I rv h;obtain⟨l,ps,rss,rfl,hl,hP,q⟩:=h;obtain⟨u,rfl,K⟩:=rv.one;cases K;obtain⟨hz,its,n,r,e⟩:=(show ObjOk X.prog X.w H s.heap l (.lst ps)from I.hok _ _ hl);have U:X.A.handled=none:=I.ok.hd hc;have E:its.toArray.size=ps.length:=by simpa using r.length.symm
 have G:sysModules<s.heap.objs.size:=Nat.lt_trans (by decide) (I.mod.glob.keeps I.bk).lt;refine callType_codes (Q₁:=λobj s₁=>obj=.ref s.heap.objs.size/\s₁={s with heap:=s.heap.push {cls:=.type "dict",data:=.dict #[]}}) PySem.F.kt_called_dict (PySem.F.kt_typeCall_dict_1 _) PySem.F.entry_dict_init (kt_code_dict_new _ ⟨rfl,rfl⟩) ?_;rintro obj s₁ ⟨rfl,rfl⟩;have L:(s.heap.push {cls:=.type "dict",data:=.dict #[]}).get? s.heap.objs.size=some {cls:=.type "dict",data:=.dict #[]}:=Heap.get?_push_size _ rfl;have k0:∀b o,s.heap.get? b=some o->(s.heap.push {cls:=.type "dict",data:=.dict #[]}).get? b=some o:=λb o e=>Heap.get?_push_of_some _ e;generalize s.heap.push {cls:=.type "dict",data:=.dict #[]}=h0 at L k0;refine⟨⟨_,L,rfl⟩,PySem.F.args_dict_init_2 _ _,?_⟩;unfold Builtin.«dict.__init__»;refine wpAny_bind ?_;unfold Builtin.Dict.selfAndRest;refine wpAny_bind (wpAny_notOrdered_dict ⟨_,L,rfl⟩ ?_);show wpAny _ _ (pure (s.heap.objs.size,[Value.ref l])) _ _ _;refine wpAny_pure ?_;show wpAny _ _ (Builtin.Dict.updateFrom "dict.__init__" s.heap.objs.size (.ref l) [] .none) _ _ _;unfold Builtin.Dict.updateFrom;refine wpAny_bind (wpAny_typeOf (s:={s with heap:=h0}) ⟨_,k0 _ _ e,rfl⟩ ?_);rw[if_pos (by decide)];refine wpAny_bind (b3S (s:={s with heap:=h0}) (k0 _ _ e) rfl rfl rfl U λh1 J k1=>?_);rw[if_pos (show(none:Option Value).isNone=true from rfl)];refine wpAny_bind (wpAny_rule ?_);have j:∀b o,s.heap.get? b=some o->h1.get? b=some o:=λb o e=>k1 _ _ (k0 _ _ e);refine wpAny_bind (wpAny_pyIter_list (s:={s with heap:=h1,toks:=J}) ⟨_,j _ _ e,rfl,n,rfl⟩ ?_);have O:(h1.push {cls:=.type "list_iterator",data:=.fields #[.ref l,.int 0 0]}).IsListIter h1.objs.size l 0:=⟨_,Heap.get?_push_size _ rfl,rfl,rfl⟩;have k2:∀b o,h1.get? b=some o->(h1.push {cls:=.type "list_iterator",data:=.fields #[.ref l,.int 0 0]}).get? b=some o:=λb o e=>Heap.get?_push_of_some _ e;have W:=k1 _ _ L;refine wpAny_pure ⟨plainId_quiet X7 _,?_⟩;refine b2i (prog:=X.prog) (w:=X.w) (A:=X.A.in1) (s0:=s.heap) (l:=l) (items:=its.toArray) (Nat.ne_of_lt (Heap.lt_size W)) ?_ ?_ ⟨_,e,rfl,n,rfl⟩ U (show X.A.units+1+10<cLine by omega) (by omega)
  (λi xs=>∃kvs d,KT H kvs xs/\kvs.map (·.1)=IK d/\Onc d (rss.take i)) (λi hi=>?_) _ 0 {s with heap:=h1.push {cls:=.type "list_iterator",data:=.fields #[.ref l,.int 0 0]},toks:=J} [] rfl (Nat.zero_le _) (λb o e=>k2 _ _ (j _ _ e)) O ⟨{cls:=.type "dict",data:=.dict #[]},#[],0,k2 _ _ W,⟨rfl,rfl,rfl⟩,rfl,rfl,List.nodup_nil⟩ ⟨[],[],.nil,rfl,⟨.nil,λ_=>Iff.rfl,Nat.le_refl _⟩⟩ λh' tk M e1 e2 ⟨kvs,d,e3,Z,S⟩=>?_
 .cases z:s.heap.get? s.heap.objs.size with
  |none=>rfl
  |some o=>exact absurd (Heap.lt_size z) (Nat.lt_irrefl _)
 .cases z:s.heap.get? h1.objs.size with
  |none=>rfl
  |some o=>exact absurd (Heap.lt_size (j _ _ z)) (Nat.lt_irrefl _)
 .have hi':i<ps.length:=by omega
  obtain⟨u,eu,K⟩:=r.get (List.getElem?_eq_getElem hi');obtain⟨row,b,v,y,er,eb,hb,a,rfl,ha⟩:=hP.2 i _ (List.getElem?_eq_getElem hi');rw[eb]at K;cases K;obtain⟨_,a0,r2,N⟩:=(show ObjOk X.prog X.w H s.heap b (.tup [.ref a,y])from I.hok _ _ hb);obtain⟨u1,u2,rfl,P,T⟩:=r2.two;cases P;refine⟨b,row.map Sum.inl,a,u2,by simpa using eu,N,a0X I.hok (by rw[a1T];exact ha),?_⟩;rintro xs ⟨kvs,d,R,C,g⟩;have D:xs.length=d.length:=by
   have h1:=Paired.length R;have h2:=congrArg List.length C;rw[IK,List.length_map,List.length_map]at h2;omega
  refine⟨by rw[D];exact Nat.le_trans g.le (List.length_take_le _ _),λx f=>?_,Z4 kvs (row.map Sum.inl) y,if row∈d then d else d++[row],R.put _ (by rw[a1T];exact ha) T,?_⟩
  .have all:∀{l:List (List Key×V)}{m:List (List Key×Addr×Value)},KT H l m->∀x∈m,(tupleKind (B5 X.prog X.w)).is s.heap x.1 x.2.1:=by
    intro l m q;induction q with
    |nil=>intro x f;exact nomatch f
    |@cons p q ps qs hq t ih =>
     intro x f;rcases List.mem_cons.mp f with e|f
     .subst e;exact a0X I.hok (by rw[<-hq.1];exact hq.2.1)
     .exact ih x f
   exact all R x f
  .have et:rss.take (i+1)=rss.take i++[row]:=by rw[List.take_add_one,er];rfl
   rw[et];by_cases k:row∈d
   .rw[if_pos k,a8Z _ (by rw[C];exact List.mem_map.mpr ⟨row,k,rfl⟩)];exact⟨C,g.old k⟩
   .rw[if_neg k,a5I _ (b6y C k),List.map_append,C];refine⟨?_,g.new k⟩;unfold IK;rw[List.map_append];rfl
 .have hil:ps.length=rss.length:=hP.1;rw[E,hil,List.take_length]at S;obtain⟨o,es,ep,g1,g2,g3,g4,g5⟩:=e2;have B:H s.heap.objs.size=none:=I.hok.fresh (Nat.le_refl _);have D:kvs.length<=rss.length:=by
   have h2:=congrArg List.length Z;rw[IK,List.length_map,List.length_map]at h2;rw[h2];exact S.le
  refine⟨rfl,.ref s.heap.objs.size,_,I.laid (h':=h') (a:=s.heap.objs.size) (o:=.dT kvs) (t':=tk) e1 (Nat.le_refl _) ⟨by omega,beq_eq_false_iff_ne.mpr (Ne.symm (Nat.ne_of_lt G)),M,e3.keeps λc ys Y=>?_,o,es,ep,g1,g2,g3,g4,g5⟩,rfl,q _ kvs d B Z S⟩;rw[A2 (A6 Y B)];exact Y
variable {e:Expr}{es:List Expr}{t:TA}{p pos:Pos}
theorem b1Q(b:X.A.units+60<cLine)(d:Gl X "dict")(c:X.mg "dict"=none)(ha:JA X (e::es) t)(hc:X.calm=true:=by rfl)(f:starEach (e::es) X.env=(false,eval e X.env)::starEach es X.env:=by rfl)(a:(backTo pos (starEach es X.env)).any (·.1)=false:=by rfl):JE X (.Call (.Name "dict" p) (e::es) [] pos) (tCB b0S t):=⟨Q8 (a7s b hc) d c b4u ha.h (by decide) (by decide) f a⟩
end
end L2
namespace K17
open PySem PySem.Spec PyProof.Rows L2
noncomputable def top(i:Nat):Stmt:=PySem.Challenge.pw_leastlays_k17_looker_refuses.main.body.getD i (.Pass ⟨0,0,0,0⟩)
noncomputable abbrev a0p:Stmt:=top 1
noncomputable abbrev O0:Stmt:=top 3
noncomputable abbrev N9:Stmt:=top 4
noncomputable abbrev K0:Stmt:=top 5
noncomputable abbrev X2:Stmt:=top 7
noncomputable abbrev a4x:Stmt:=top 8
noncomputable abbrev O2:Stmt:=top 9
noncomputable abbrev X4:Stmt:=top 10
noncomputable abbrev a1P:Stmt:=top 11
noncomputable abbrev a1Q:Stmt:=top 13
noncomputable abbrev a4w:Stmt:=top 14
noncomputable abbrev S0:Stmt:=top 15
noncomputable abbrev K8:Stmt:=top 16
noncomputable abbrev J9:Stmt:=top 18
noncomputable abbrev a0q:Stmt:=top 19
noncomputable abbrev a1M:Stmt:=top 20
noncomputable abbrev X6:Stmt:=top 22
noncomputable abbrev O3:Stmt:=top 23
noncomputable abbrev a0r:Stmt:=top 24
noncomputable abbrev X5:Stmt:=top 25
noncomputable abbrev a1N:Stmt:=top 26
noncomputable abbrev O1:Stmt:=top 31
noncomputable abbrev L9:Stmt:=top 32
noncomputable abbrev a1O:Stmt:=top 34
noncomputable abbrev S5:Stmt:=top 36
noncomputable abbrev O4:Stmt:=top 37
noncomputable abbrev M0:Stmt:=top 38
noncomputable abbrev O5:Stmt:=top 39
noncomputable abbrev O6:Stmt:=top 40
noncomputable abbrev M1:Stmt:=top 41
noncomputable abbrev K1:Stmt:=top 42
noncomputable abbrev S3:Stmt:=top 43
noncomputable abbrev K2:Stmt:=top 44
noncomputable abbrev a2n:Stmt:=top 45
noncomputable abbrev D7:Stmt:=T5 (top 33) 0
noncomputable abbrev Z7:Stmt:=T5 (top 33) 1
noncomputable abbrev C2:Stmt:=T5 (top 33) 2
noncomputable abbrev V4:Stmt:=T5 (top 33) 3
noncomputable abbrev K3:Stmt:=T5 (top 33) 4
noncomputable abbrev G5:Stmt:=T5 (top 33) 5
noncomputable abbrev G8:Stmt:=T5 (top 33) 6
structure Tx(mg:Str->Option Value):Prop where
 b_ValueError:mg "ValueError"=none
 b_all:mg "all"=none
 b_any:mg "any"=none
 b_bool:mg "bool"=none
 b_dict:mg "dict"=none
 b_int:mg "int"=none
 b_isinstance:mg "isinstance"=none
 b_len:mg "len"=none
 b_list:mg "list"=none
 b_max:mg "max"=none
 b_range:mg "range"=none
 b_set:mg "set"=none
 b_sorted:mg "sorted"=none
 b_sum:mg "sum"=none
 b_tuple:mg "tuple"=none
 b_zip:mg "zip"=none
structure PotAt(H:Hp)(a b:Addr)(n:Nat):Prop where
 ne:a≠b
 ex:∃(cs:List Int) (t k:Int),H a=some (.lst [.ref b,.int t,.int k])/\H b=some (.lst (cs.map V.int))/\cs.length<=63/\(∀c∈cs,0<=c)/\0<=t/\t<2 ^ 61/\0<=k/\k<=n
theorem PotAt.same{H H':Hp}{a b:Addr}{n:Nat}(h:PotAt H a b n)(s:Same H H'):PotAt H' a b n:=by
 obtain⟨ne,cs,t,k,h1,h2,c⟩:=h;exact⟨ne,cs,t,k,s _ _ h1,s _ _ h2,c⟩
theorem PotAt.mono{H:Hp}{a b:Addr}{n m:Nat}(h:PotAt H a b n)(j:n<=m):PotAt H a b m:=by
 obtain⟨ne,cs,t,k,h1,h2,d,g,e,c,f,i⟩:=h;exact⟨ne,cs,t,k,h1,h2,d,g,e,c,f,by omega⟩
theorem a8v{ns:List Int}{hi:Option Int}{i:Nat}{x:V}(h:(L4 (ns.map V.int) none hi)[i]?=some x):∃z,x=V.int z:=by
 unfold L4 at h;have b:=List.mem_of_getElem? h;have a:=List.mem_of_mem_drop (List.mem_of_mem_take b);obtain⟨z,_,e⟩:=List.mem_map.mp a;exact⟨z,e.symm⟩
theorem b4o{ns:List Int}{hi:Option Int}:(L4 (ns.map V.int) none hi).length<=ns.length:=by
 have:=W6 (ns.map V.int) none hi;rwa[List.length_map]at this
section
variable {P:Program}{w:World}{K:PySem.W.Frag}{mg:Str->Option Value}{base:Heap}
inductive IspPot(K:PySem.W.Frag)(vs:List V)(H:Hp)(Q:VK)(E:XK):Prop
 |mk (a:Addr) (ns:List Int) (_:vs=[.ref a]) (_:SqL K H a (ns.map V.int)) (_:ns.length<=63) (_:∀p b H',H p=none->H b=none->PotAt H' p b 0->Same H H'->Q (.ref p) H'):IspPot K vs H Q E
def b4F(K:PySem.W.Frag):Sp:=λvs H Q E=>IspPot K vs H Q E
theorem sc__law_pot:FnScope ["_law_script","_law_total","_law_cell"] ["_law_script"] (A1 S5):=⟨rfl,rfl,rfl,by decide +kernel,rfl,by decide +kernel,by decide +kernel⟩
theorem b6d(F:FunAt K mg "_law_pot" S5 ["_law_script"])(T:Tx mg):Ok P w K mg base "_law_pot" 1 ["_law_script"] (b4F K):=by
 refine F.okJ sc__law_pot (λvs H Q E h=>?_) (λC f A outer s H vs Q E y h=>?_)
 .obtain⟨a,ns,rfl,_⟩:=h;rfl
 .obtain⟨a,ns,rfl,hS,hl,k⟩:=h;refine⟨_,(A3 (B2 (i:=1) sc__law_pot.nd rfl (Or.inl rfl) A5)
 (A3 (N1 (E6 K (b4V K (jv 0) D9 (D8 A5))) (A8 (i:=2) sc__law_pot.nd rfl (Or.inl rfl))
 (A4 (B2 (i:=1) sc__law_pot.nd rfl (Or.inl rfl) (a0y (L0 (L0 (Z9 (jv 1) A5) (a0y (jv 2) (a3N A5 A5))) A5) (a8l (a3N A5 A5) A5)))))
 (A4 (B0 (J1 (jaC (C0 (N:=["_law_cell"]) (src:=[none]) (E6 K (b4V K (jv 0) D9 (D8 A5))) (by show B7 _ _=true;rfl) (by rfl) (by rfl)
 (λ_ _ _ _ _=>(A8 (i:=0) (show(["_law_cell"]:List Str).Nodup by decide +kernel) rfl (Or.inl rfl))) (λ_ _ _ _ _=>(W0 (b4U (jv 0) (a3N A5 A5)))) (λ_ _ _ _ _=>(jv 0))) (jaC (jv 1) (jaC A5 jaN)))))))),?_⟩
  refine⟨_,rfl,200,rfl,a,_,rfl,hS,λp hp=>?_⟩;refine⟨p,rfl,⟨_,SqL.of A0⟩,?_⟩;refine N4 (K:=K) (a:=p) (xs:=L4 (ns.map V.int) none (some 200)) (λi σ H2=>Ex2 λ(t:Int) (v:Option V)=>An4 (σ=[some (.ref a),some (.int t),v]) (0<=t) (t<2 ^ 61) (H2=upd H p (.lst (L4 (ns.map V.int) none (some 200)))))
   ⟨7,none,rfl,by decide,by decide,rfl⟩ (λi σ H2 _ ⟨_,_,_,_,_,e⟩=>by rw[e];exact SqL.of A0) ?_ ?_
  .rintro i x σ H2 hx ⟨t,v,rfl,h0,h1,rfl⟩;obtain⟨z,rfl⟩:=a8v hx;simp only[a6y,a3e,A9,tOp,tUn,L8,tC,rI,rI0,rU,a8J,M9,a6z,a7G,a3w,a3x,U4,R9,a2d,tCB,a5l,a5m,tSl,G4,a1l,K7,tB,a8K,tOr,a8I,a3y,a8H,a3v,tIf,a8G,rEq,rNe,a1L,ipI,b3f,a8X,List.set_cons_zero,List.set_cons_succ,List.getElem?_cons_zero,List.getElem?_cons_succ,Option.some.injEq,V.int.injEq,V.bl.injEq,exists_eq_left',exists_eq_left,exists_and_left,true_and,and_true,B1,List.map_cons,List.map_nil,Option.bind_none,Option.bind_some,Option.join_some,L2.start,List.length_cons,List.length_nil,Nat.reduceAdd,Nat.reduceSub,List.replicate_succ,List.replicate_zero,List.cons_append,List.nil_append];have d:(0:Int)<2 ^ Int.toNat 61-1:=by decide
   refine⟨.inr ⟨by decide,by decide⟩,⟨by decide,by decide,by decide⟩,by decide,⟨by decide,by decide,by decide⟩,d,_,_,rfl,Int.emod_nonneg _ (Int.ne_of_gt d),?_,trivial⟩;have:=Int.emod_lt_of_pos (t*1000003+z % 10 ^ Int.toNat 40+11) d;have e:(2:Int) ^ Int.toNat 61=2 ^ 61:=rfl;omega
  .rintro σ H2 ⟨t,v,rfl,h0,h1,rfl⟩;have m:Same H (upd H p (.lst (L4 (ns.map V.int) none (some 200)))):=(Same.refl H).upd hp;generalize upd H p (.lst (L4 (ns.map V.int) none (some 200)))=H1 at m;refine⟨_,rfl,63,rfl,a,_,rfl,m.seq hS,λp2 l=>?_⟩;have s2:Same H (upd H1 p2 (.lst (L4 (ns.map V.int) none (some 63)))):=m.upd l;refine⟨p2,rfl,⟨_,SqL.of A0⟩,?_⟩;have r:(1000:Nat)<=sizeLine:=by rw[sizeLine_eq];decide
   have hcl:=b4o (ns:=ns) (hi:=some 63);refine R5 (K:=K) (a:=p2) (xs:=L4 (ns.map V.int) none (some 63)) (by omega) (λi ys g=>g=upd H1 p2 (.lst (L4 (ns.map V.int) none (some 63)))/\ys.length<=i/\∃cs:List Int,ys=cs.map V.int/\∀c∈cs,0<=c)
    ⟨rfl,Nat.le_refl _,[],rfl,λ_ h=>nomatch h⟩ (λi ys g _ ⟨e,u,_⟩=>⟨by rw[e];exact SqL.of A0,u⟩) ?_ ?_
   .rintro i x ys g hx ⟨rfl,hy,cs,rfl,hc⟩;obtain⟨z,rfl⟩:=a8v hx;refine⟨Sub.one,?_⟩;simp only[a6y,a3e,A9,tOp,tUn,L8,tC,rI,rI0,rU,a8J,M9,a6z,a7G,a3w,a3x,U4,R9,a2d,tCB,a5l,a5m,tSl,G4,a1l,K7,tB,a8K,tOr,a8I,a3y,a8H,a3v,tIf,a8G,rEq,rNe,a1L,ipI,b3f,a8X,List.set_cons_zero,List.set_cons_succ,List.getElem?_cons_zero,List.getElem?_cons_succ,Option.some.injEq,V.int.injEq,V.bl.injEq,exists_eq_left',exists_eq_left,exists_and_left,true_and,and_true,B1,List.map_cons,List.map_nil,Option.bind_none,Option.bind_some,Option.join_some,L2.start,List.length_cons,List.length_nil,Nat.reduceAdd,Nat.reduceSub,List.replicate_succ,List.replicate_zero,List.cons_append,List.nil_append];refine⟨⟨by decide,by decide,by decide⟩,a3n (λr=>?_) (λr=>?_)⟩
    .have hz':(10:Int) ^ Int.toNat 18<=z:=by simpa using r
     refine⟨by rw[List.length_append];simpa using hy,cs++[z],by simp,λc j=>?_⟩;rcases List.mem_append.mp j with q|q
     .exact hc c q
     .rw[List.mem_singleton.mp q];have e:(10:Int) ^ Int.toNat 18=1000000000000000000:=rfl;omega
    .exact⟨by omega,cs,rfl,hc⟩
   .rintro ys g ⟨rfl,hy,cs,rfl,hc⟩ p3 hp3;simp only[a6y,a3e,A9,tOp,tUn,L8,tC,rI,rI0,rU,a8J,M9,a6z,a7G,a3w,a3x,U4,R9,a2d,tCB,a5l,a5m,tSl,G4,a1l,K7,tB,a8K,tOr,a8I,a3y,a8H,a3v,tIf,a8G,rEq,rNe,a1L,ipI,b3f,a8X,List.set_cons_zero,List.set_cons_succ,List.getElem?_cons_zero,List.getElem?_cons_succ,Option.some.injEq,V.int.injEq,V.bl.injEq,exists_eq_left',exists_eq_left,exists_and_left,true_and,and_true,B1,List.map_cons,List.map_nil,Option.bind_none,Option.bind_some,Option.join_some,L2.start,List.length_cons,List.length_nil,Nat.reduceAdd,Nat.reduceSub,List.replicate_succ,List.replicate_zero,List.cons_append,List.nil_append];refine⟨by show 3<=sizeLine;omega,λB b=>?_⟩;have n:=s2.upd (o:=.lst (cs.map V.int)) hp3;refine k B p3 _ (n.free b) (s2.free hp3) ⟨?_,cs,t,0,A0,?_,?_,hc,h0,h1,by decide,by decide⟩ (n.upd b)
    .exact(A6 (o:=.lst (cs.map V.int)) A0 b).symm
    .exact Q3 A0 b
    .rw[List.length_map]at hy;omega
theorem at0{x y z:V}:atI [x,y,z] 0=some x:=rfl
theorem at1{x y z:V}:atI [x,y,z] 1=some y:=rfl
theorem at2{x y z:V}:atI [x,y,z] 2=some z:=rfl
theorem atc{x:V}{xs:List V}:atI (x::xs) 0=some x:=Z2 (j:=0) rfl
theorem b7M{x:Int}{xs:List Int}:ixN ((x::xs).map V.int).length 0=some 0:=by
 rw[List.length_map,List.length_cons];unfold ixN;rw[if_pos (by decide),if_pos (by omega)];rfl
structure PotD(H:Hp)(a b:Addr)(cs:List Int)(t k:Int)(n:Nat):Prop where
 ha:H a=some (.lst [.ref b,.int t,.int k])
 hb:H b=some (.lst (cs.map V.int))
 len:cs.length<=63
 pos:∀c∈cs,0<=c
 t0:0<=t
 t1:t<2 ^ 61
 k0:0<=k
 k1:k<=n
theorem PotD.upd{H:Hp}{a b p:Addr}{cs:List Int}{t k:Int}{n:Nat}{o:HO}(h:PotD H a b cs t k n)(hp:H p=none):PotD (L2.upd H p o) a b cs t k n :=
 ⟨Q3 h.ha hp,Q3 h.hb hp,h.len,h.pos,h.t0,h.t1,h.k0,h.k1⟩
inductive IspTake(vs:List V)(H:Hp)(Q:VK)(E:XK):Prop
 |mk (a b:Addr) (n:Nat) (m:Int) (_:vs=[.ref a,.int m]) (_:PotAt H a b n) (_:n<2 ^ 60) (_:0<m) (_:m<2 ^ 30) (_:∀r H',0<=r->r<m->PotAt H' a b (n+1)->Off [a,b] H H'->Q (.int r) H'):IspTake  vs H Q E
def a0M:Sp:=λvs H Q E=>IspTake  vs H Q E
theorem sc__law_take:FnScope ["_law_pot_here","_law_many","_law_digit","_law_at","_law_number"] ["_law_pot_here","_law_many"] (A1 O4):=⟨rfl,rfl,rfl,by decide +kernel,rfl,by decide +kernel,by decide +kernel⟩
theorem b3M(F:FunAt K mg "_law_take" O4 ["_law_pot_here","_law_many"])(T:Tx mg):Ok P w K mg base "_law_take" 1 ["_law_pot_here","_law_many"] a0M:=by
 refine F.okJ sc__law_take (λvs H Q E h=>?_) (λa1 f A outer s H vs Q E L h=>?_)
 .obtain⟨a,b,n,m,rfl,_⟩:=h;rfl
 .obtain⟨a,b,n,m,rfl,⟨ne,cs0,t0,k0,hP1,hP2,hP3,hP4,hP5,hP6,hP7,hP8⟩,hn,hm0,hm1,kk⟩:=h;have I:=L.u60;refine⟨_,(A3 (a5Z (a4K (a2J (a0Y K I (J2 K (jv 0) A5) (J1 jaN)) (a0x (a8j (J2 K (J2 K (jv 0) A5) A5) A5))))
 (A4 (T0 (b1K K (J2 K (jv 0) A5) (jaC A5 jaN)))))
 (A3 (E8 (a0Y K I (J2 K (jv 0) A5) (J1 jaN))
 (A3 (B2 (i:=2) sc__law_take.nd rfl (Or.inl rfl) (a0y (J2 K (J2 K (jv 0) A5) A5) (jv 1)))
 (A3 (a4L (b1R (J2 K (J2 K (jv 0) A5) A5) (jv 1)) (b1L (J2 K (jv 0) A5) A5))
 (A4 (B0 (jv 2)))))
 C8)
 (A3 (a7d K (jv 0) A5 A5)
 (A3 (B2 (i:=3) sc__law_take.nd rfl (Or.inl rfl) (J2 K (jv 0) A5))
 (A3 (B2 (i:=4) sc__law_take.nd rfl (Or.inl rfl) (a0y (L0 (J2 K (jv 0) A5) (Z9 A5 (jv 3))) A5))
 (A3 (B2 (i:=4) sc__law_take.nd rfl (Or.inl rfl) (a0y (Z9 (jv 4) (L0 A5 (Z9 (Z9 A5 (jv 3)) (jv 3)))) A5))
 (A3 (B2 (i:=4) sc__law_take.nd rfl (Or.inl rfl) (L0 (a0y (Z9 (jv 4) (jv 4)) A5) (jv 3)))
 (A4 (B0 (a0y (b1R (a0y (Z9 (jv 4) (L0 (a0y (jv 4) A5) A5)) A5) A5) (jv 1))))))))))),?_⟩
  refine X1 (λσ H2=>Ex3 λ(cs:List Int) (t k:Int)=>An3 (PotD H2 a b cs t k n) (σ=[some (.ref a),some (.int m),none,none,none]) (Off [a,b] H H2)) ?fin λfin=>?_
  case fin =>
   rintro σ H2 ⟨cs,t,k,D,rfl,off⟩;refine b4C (b:=b) (cs:=cs) (λQ' q=>ixL (var rfl) con D.ha at0 q) D.hb λp hp=>?_;have d:=D.upd (o:=.lst []) hp;have g:=off.upd (o:=.lst []) hp;generalize upd H2 p (.lst [])=C at d g;cases cs with
   |nil =>
    refine D6 ?_;refine⟨_,rfl,a,_,2,_,rfl,rfl,SqL.of d.ha,at2,_,_,rfl,rfl,a,_,2,2,rfl,rfl,d.ha,rfl,?_⟩;have hP:PotAt (upd C a (.lst [.ref b,.int t,.int (k+1)])) a b (n+1) :=
     ⟨ne,[],t,k+1,A0,by rw[A2 ne.symm];exact d.hb,by decide,(λ_ z=>nomatch z),d.t0,d.t1,by have:=d.k0;omega,by have:=d.k1;omega⟩
    have l:Off [a,b] H (upd C a (.lst [.ref b,.int t,.int (k+1)])):=g.set (by simp);have a0:=d.k0;have M:=d.k1;refine⟨_,rfl,a,_,2,_,rfl,rfl,SqL.of A0,at2,?_⟩;refine⟨_,rfl,a,_,1,_,rfl,rfl,SqL.of A0,at1,?_⟩;simp only[a6y,a3e,A9,tOp,tUn,L8,tC,rI,rI0,rU,a8J,M9,a6z,a7G,a3w,a3x,U4,R9,a2d,tCB,a5l,a5m,tSl,G4,a1l,K7,tB,a8K,tOr,a8I,a3y,a8H,a3v,tIf,a8G,rEq,rNe,a1L,ipI,b3f,a8X,List.set_cons_zero,List.set_cons_succ,List.getElem?_cons_zero,List.getElem?_cons_succ,Option.some.injEq,V.int.injEq,V.bl.injEq,exists_eq_left',exists_eq_left,exists_and_left,true_and,and_true,B1,List.map_cons,List.map_nil,Option.bind_none,Option.bind_some,Option.join_some,L2.start,List.length_cons,List.length_nil,Nat.reduceAdd,Nat.reduceSub,List.replicate_succ,List.replicate_zero,List.cons_append,List.nil_append];generalize u:(t+104729*(k+1)) % 2147483629=B;have Y:0<=B:=by rw[<-u];exact Int.emod_nonneg _ (by decide)
    have X:B<2147483629:=by rw[<-u];exact Int.emod_lt_of_pos _ (by decide)
    generalize j:B*(48271+2*(k+1)*(k+1)) % 2147483629=y;have Z:0<=y:=by rw[<-j];exact Int.emod_nonneg _ (by decide)
    have U:y<2147483629:=by rw[<-j];exact Int.emod_lt_of_pos _ (by decide)
    generalize v:y*y % 2147483587=J;have O:0<=J:=by rw[<-v];exact Int.emod_nonneg _ (by decide)
    have W:J<2147483587:=by rw[<-v];exact Int.emod_lt_of_pos _ (by decide)
    refine⟨.inl ⟨by decide,by decide⟩,by decide,.inl ⟨by decide,by decide⟩,.inl ⟨by omega,by omega⟩,.inl ⟨by omega,by omega⟩,by decide,.inl ⟨by omega,by omega⟩,by decide,by decide,.inl ⟨by omega,by omega⟩,by decide,⟨by decide,by decide⟩,hm0,?_⟩;exact kk _ _ (Int.emod_nonneg _ (by omega)) (Int.emod_lt_of_pos _ hm0) hP l
   |cons c cs =>
    refine F0 ?_;have G:0<=c:=d.pos c List.mem_cons_self;refine⟨_,rfl,a,_,0,_,rfl,rfl,SqL.of d.ha,at0,b,_,0,_,rfl,rfl,SqL.of d.hb,atc,?_⟩;refine⟨_,rfl,_,_,rfl,rfl,hm0,?_⟩;refine⟨_,rfl,a,_,0,_,rfl,rfl,SqL.of d.ha,at0,b,_,0,_,rfl,rfl,SqL.of d.hb,atc,?_⟩;refine⟨_,rfl,_,_,rfl,rfl,⟨hm0,hm1⟩,?_⟩;refine⟨_,rfl,a,_,0,_,rfl,rfl,SqL.of d.ha,at0,b,_,0,0,rfl,rfl,d.hb,b7M,_,rfl,?_⟩;refine kk _ _ (Int.emod_nonneg _ (by omega)) (Int.emod_lt_of_pos _ hm0) ⟨ne,c / m::cs,t,k,by rw[A2 ne];exact d.ha,A0,d.len,λx r=>?_,d.t0,d.t1,d.k0,by have:=d.k1;omega⟩ (g.set (by simp));rcases List.mem_cons.mp r with rfl|r
    .exact Int.ediv_nonneg G (by omega)
    .exact d.pos x (List.mem_cons_of_mem _ r)
  refine⟨λS σ H1=>∃(cs:List Int) (t k:Int),PotD H1 a b cs t k n/\S=cs.length/\σ=[some (.ref a),some (.int m),none,none,none]/\Off [a,b] H H1,
   ⟨_,cs0,t0,k0,⟨hP1,hP2,hP3,hP4,hP5,hP6,hP7,hP8⟩,rfl,rfl,Off.refl _ _⟩,?_⟩
  rintro S σ H1 ⟨cs,t,k,D,rfl,rfl,off⟩;refine b4C (b:=b) (cs:=cs) (λQ' q=>ixL (var rfl) con D.ha at0 q) D.hb λp hp=>?_;have d:=D.upd (o:=.lst []) hp;have g:=off.upd (o:=.lst []) hp;generalize upd H1 p (.lst [])=C at d g;cases cs with
  |nil =>
   refine D6 (D6 ?_);exact fin _ _ ⟨[],t,k,d,rfl,g⟩
  |cons c cs =>
   refine F0 ?_;refine ixL (λQ' q=>ixL (var rfl) con d.ha at0 q) con d.hb atc ⟨rfl,_,rfl,?_⟩;refine a3n (λe=>?_) (λe=>fin _ _ ⟨c::cs,t,k,d,rfl,g⟩);refine⟨λσ' H'=>∃t k,PotD H' a b cs t k n/\σ'=[some (.ref a),some (.int m),none,none,none]/\Off [a,b] H H',λσ' H' ⟨t,k,N,R,o'⟩=>⟨cs.length,Nat.lt_succ_self _,cs,t,k,N,rfl,R,o'⟩,?_⟩;refine⟨_,rfl,a,_,0,_,rfl,rfl,SqL.of d.ha,at0,.inl ⟨rfl,_,SqL.of d.hb⟩,b,_,0,0,_,rfl,rfl,d.hb,by decide,by decide,?_,rfl,?_⟩
   .exact seqIndex_of (by decide) (by simp)
   .exact⟨t,k,⟨by rw[A2 ne];exact d.ha,A0,by have:=d.len;simp at this;omega,λx r=>d.pos x (List.mem_cons_of_mem _ r),d.t0,d.t1,d.k0,d.k1⟩,rfl,g.set (by simp)⟩
end
theorem a0g{ns:List Int}{k:Nat}(h:k<ns.length):atI (ns.map V.int) (k:Int)=some (.int (ns.getD k 0)):=by
 refine Z2 ?_;rw[List.getElem?_map,List.getElem?_eq_getElem h];simp[List.getD_eq_getElem?_getD,h]
theorem b0Z{H:Hp}{a b:Addr}{n:Nat}(h:PotAt H a b n){c:Addr}{xs:List V}(hc:H c=some (.tup xs)):c∉[a,b]:=by
 obtain⟨_,cs,t,k,h1,h2,_⟩:=h;simp only[List.mem_cons,List.not_mem_nil,or_false,not_or];exact⟨K9 hc h1 (by intro z;cases z),K9 hc h2 (by intro z;cases z)⟩
theorem IT.off{H H':Hp}{v:V}{ns:List Int}{a b:Addr}{n:Nat}(h:IT H v ns)(d:PotAt H a b n)(o:Off [a,b] H H'):IT H' v ns:=by
 obtain⟨c,e,q⟩:=h;exact⟨c,e,o c _ (b0Z d q) q⟩
theorem sqt{K:PySem.W.Frag}{H:Hp}{a:Addr}{xs:List V}(h:H a=some (.tup xs)):SqK true K H a xs:=SqT.of h
noncomputable def Bel(xs ys:List Int):Bool:=(List.zipWith (λa b=>decide (a<=b)) xs ys).all id
theorem b6W(xs ys:List Int):(List.zipWith (λa b=>V.bl (decide (a<=b))) xs ys).all trV=Bel xs ys:=by
 unfold Bel;induction xs generalizing ys with
 |nil=>rfl
 |cons x xs ih =>
  cases ys with
  |nil=>rfl
  |cons y ys=>simp only[List.zipWith_cons_cons,List.all_cons,ih ys];rfl
theorem a4d{γ:Type}(f:Int->Int->Int)(g:Int->γ):∀xs ys:List Int,List.zipWith (λa b=>g (f a b)) xs ys=(List.zipWith f xs ys).map g
 |[],_=>rfl
 |_::_,[]=>rfl
 |x::xs,y::ys=>by rw[List.zipWith_cons_cons,List.zipWith_cons_cons,List.map_cons,a4d f g xs ys]
section
variable {P:Program}{w:World}{K:PySem.W.Frag}{mg:Str->Option Value}{base:Heap}
end
theorem b2d(n:Nat):(List.replicate n [V.int 0]).flatten=(List.replicate n (0:Int)).map V.int:=by
 induction n with
 |zero=>rfl
 |succ n ih=>rw[List.replicate_succ,List.flatten_cons,ih,List.replicate_succ];rfl
noncomputable def dot(xs ys:List Int):Int:=(List.zipWith (λa b=>a*b) xs ys).sum
noncomputable def Ans(rss:LLI)(ys:List Int):Bool:=rss.all λr=>decide (dot r ys=0)
def Sm(ys:List Int):Prop:=∀z∈ys,-2 ^ 64<z/\z<2 ^ 64
section
variable {P:Program}{w:World}{K:PySem.W.Frag}{mg:Str->Option Value}{base:Heap}
inductive IspRowSum(vs:List V)(H:Hp)(Q:VK)(E:XK):Prop
 |mk (x:_) (y:_) (xs:_) (ys:_) (_:vs=[x,y]) (_:IT H x xs) (_:IT H y ys) (_:xs.length<=1000) (_:Sm ys) (_:∀H',Same H H'->Q (.int (dot xs ys)) H'):IspRowSum  vs H Q E
def a5r:Sp:=λvs H Q E=>IspRowSum  vs H Q E
theorem a6E:FnScope ["row","one"] ["row","one"] (A1 X2):=⟨rfl,rfl,rfl,by decide +kernel,rfl,by decide +kernel,by decide +kernel⟩
theorem a6U(F:FunAt K mg "row_sum" X2 ["row","one"])(T:Tx mg):Ok P w K mg base "row_sum" 1 ["row","one"] a5r:=by
 refine F.okJ a6E (λvs H Q E h=>?_) (λg f A outer s H vs Q E d h=>?_)
 .obtain⟨x,y,xs,ys,rfl,_⟩:=h;rfl
 .obtain⟨_,_,xs,ys,rfl,⟨a,rfl,ha⟩,⟨b,rfl,hb⟩,hl,hs,k⟩:=h;refine⟨_,(A4 (B0 (b1M K rfl T.b_sum (jaC (C0 (N:=["a","b"]) (src:=[none,none]) (a2K K rfl T.b_zip (jaC (jv 0) (jaC (jv 1) jaN))) (by show B7 _ _=true;rfl) (by rfl) (by rfl)
 (λ_ _ _ _ _=>(T3 K 2 (B4 (A8 (i:=0) (show(["a","b"]:List Str).Nodup by decide +kernel) rfl (Or.inl rfl)) (B4 (A8 (i:=1) (show(["a","b"]:List Str).Nodup by decide +kernel) rfl (Or.inl rfl)) M6)))) (λ_ _ _ _ _=>D4) (λ_ _ _ _ _=>(Z9 (jv 0) (jv 1)))) jaN)))),?_⟩
  refine⟨_,rfl,_,rfl,true,true,a,b,rfl,⟨_,SqT.of ha⟩,⟨_,SqT.of hb⟩,?_⟩;refine a3r (caps:=[]) (λx y=>V.int (x*y)) hl (λH' s=>⟨sqt (s _ _ ha),sqt (s _ _ hb)⟩) rfl (λx y H1 e _ c _ q=>⟨_,rfl,_,rfl,_,_,rfl,rfl,.inr (hs y c),q⟩) λH1 p s hp=>?_;rw[a4d (λx y=>x*y) V.int];exact⟨false,p,_,rfl,SqL.of A0,k _ (s.upd hp)⟩
inductive IspSums(vs:List V)(H:Hp)(Q:VK)(E:XK):Prop
 |mk (a:Addr) (y:V) (us:List V) (rss:LLI) (ys:List Int) (_:vs=[.ref a,y]) (_:H a=some (.tup us)) (_:Its H us rss) (_:IT H y ys) (_:us.length<=1000) (_:(∀r∈rss,r.length<=1000)) (_:Sm ys) (_:∀v H',Same H H'->IT H' v (rss.map λr=>dot r ys)->Q v H'):IspSums  vs H Q E
def a6B:Sp:=λvs H Q E=>IspSums  vs H Q E
theorem b2X:FnScope ["rows","one"] ["rows","one"] (A1 a4x):=⟨rfl,rfl,rfl,by decide +kernel,rfl,by decide +kernel,by decide +kernel⟩
theorem b3N(F:FunAt K mg "sums" a4x ["rows","one"])(T:Tx mg)(b:Ok P w K mg base "row_sum" 1 ["row","one"] a5r):Ok P w K mg base "sums" 2 ["rows","one"] a6B:=by
 refine F.okJ b2X (λvs H Q E h=>?_) (λg f A outer s H vs Q E c h=>?_)
 .obtain⟨a,y,us,rss,ys,rfl,_⟩:=h;rfl
 .obtain⟨a,y,us,rss,ys,rfl,ha,hI,hy,hl,hl2,hs,k⟩:=h;refine⟨_,(A4 (B0 (B8 K rfl T.b_tuple (jaC (C0 (N:=["row","one"]) (src:=[none,some 1]) (L1 K (jv 0)) (by show B7 _ _=true;rfl) (by rfl) (by rfl)
 (λ_ _ _ _ _=>(A8 (i:=0) (show(["row","one"]:List Str).Nodup by decide +kernel) rfl (Or.inl rfl))) (λ_ _ _ _ _=>D4) (λ_ _ _ _ _=>(A7 b (c.mono (by omega)) rfl (jaC (jv 0) (jaC (jv 1) jaN))))) jaN)))),?_⟩
  refine⟨_,rfl,a,rfl,⟨_,SqT.of ha⟩,?_⟩;refine b2J (caps:=[some y]) (λr=>V.int (dot r ys)) hl (λH' s=>SqT.of (s _ _ ha)) hI rfl (λv r H1 e c d s1 q=>⟨_,rfl,_,rfl,v,y,r,ys,rfl,d,hy.same s1,hl2 r c,hs,q⟩) λH1 p s hp=>?_;rw[show(rss.map λr=>V.int (dot r ys))=(rss.map λr=>dot r ys).map V.int by rw[List.map_map];rfl];refine⟨p,_,rfl,.inl ⟨SqL.of A0,λl hl=>?_⟩⟩;exact k _ _ ((s.upd hp).upd hl) ⟨l,rfl,A0⟩
inductive IspIsAns(vs:List V)(H:Hp)(Q:VK)(E:XK):Prop
 |mk (a:Addr) (y:V) (us:List V) (rss:LLI) (ys:List Int) (_:vs=[.ref a,y]) (_:H a=some (.tup us)) (_:Its H us rss) (_:IT H y ys) (_:us.length<=1000) (_:(∀r∈rss,r.length<=1000)) (_:Sm ys) (_:∀H',Same H H'->Q (.bl (Ans rss ys)) H'):IspIsAns  vs H Q E
def a1J:Sp:=λvs H Q E=>IspIsAns  vs H Q E
theorem a4t:FnScope ["rows","one"] ["rows","one"] (A1 O2):=⟨rfl,rfl,rfl,by decide +kernel,rfl,by decide +kernel,by decide +kernel⟩
theorem a4F(F:FunAt K mg "is_answer" O2 ["rows","one"])(T:Tx mg)(b:Ok P w K mg base "sums" 2 ["rows","one"] a6B):Ok P w K mg base "is_answer" 3 ["rows","one"] a1J:=by
 refine F.okJ a4t (λvs H Q E h=>?_) (λl f A outer s H vs Q E g h=>?_)
 .obtain⟨a,y,us,rss,ys,rfl,_⟩:=h;rfl
 .obtain⟨a,y,us,rss,ys,rfl,ha,hI,hy,hl,hl2,hs,k⟩:=h;refine⟨_,(A4 (B0 (P6 K rfl T.b_all (jaC (C0 (N:=["total"]) (src:=[none]) (L1 K (A7 b (g.mono (by omega)) rfl (jaC (jv 0) (jaC (jv 1) jaN)))) (by show B7 _ _=true;rfl) (by rfl) (by rfl)
 (λ_ _ _ _ _=>(A8 (i:=0) (show(["total"]:List Str).Nodup by decide +kernel) rfl (Or.inl rfl))) (λ_ _ _ _ _=>D4) (λ_ _ _ _ _=>(a3L (jv 0) A5))) jaN)))),?_⟩
  refine⟨_,rfl,_,rfl,a,y,us,rss,ys,rfl,ha,hI,hy,hl,hl2,hs,λv H1 s1 c=>?_⟩;obtain⟨q,rfl,d⟩:=c;refine⟨q,rfl,⟨_,SqT.of d⟩,?_⟩;refine a5k (caps:=[]) (λx=>V.bl (decide (V.int x=V.int 0))) (by rw[List.length_map,<-hI.1];exact hl) (λH' s=>SqT.of (s _ _ d)) rfl (λx H2 j _ _ q=>⟨_,rfl,rfl,q⟩) λH2 p s2 hp=>?_;refine⟨false,p,_,rfl,SqL.of A0,?_,?_⟩
  .rw[List.all_eq_true];intro v c;obtain⟨x,_,rfl⟩:=List.mem_map.mp c;rfl
  .have e:((rss.map λr=>dot r ys).map λx=>V.bl (decide (V.int x=V.int 0))).all trV=Ans rss ys:=by
    rw[List.all_map,List.all_map];unfold Ans;congr 1;funext r;show decide (V.int (dot r ys)=V.int 0)=decide (dot r ys=0);simp
   rw[e];exact k _ (s1.trans (s2.upd hp))
end
theorem a5b{α β γ:Type}(f:α->β->Int)(g:Int->γ):∀(xs:List α) (ys:List β),List.zipWith (λa b=>g (f a b)) xs ys=(List.zipWith f xs ys).map g
 |[],_=>rfl
 |_::_,[]=>rfl
 |x::xs,y::ys=>by rw[List.zipWith_cons_cons,List.zipWith_cons_cons,List.map_cons,a5b f g xs ys]
noncomputable def O7(rss:LLI)(ts:List Int)(j:Nat):Int:=(List.zipWith (λt r=>t*r.getD j 0) ts rss).sum
noncomputable def a0G(rss:LLI)(ys:List Int)(j:Nat):Int:=O7 rss (rss.map λr=>dot r ys) j
def Rs(n:Nat)(rss:LLI):Prop:=∀r∈rss,r.length=n/\Sm r
theorem Sm.at{r:List Int}(h:Sm r){j:Nat}(a:j<r.length) : -2 ^ 64<r.getD j 0/\r.getD j 0<2 ^ 64:=by
 refine h _ ?_;rw[List.getD_eq_getElem?_getD,List.getElem?_eq_getElem a];exact List.getElem_mem _
section
variable {P:Program}{w:World}{K:PySem.W.Frag}{mg:Str->Option Value}{base:Heap}
inductive IspPullOf(vs:List V)(H:Hp)(Q:VK)(E:XK):Prop
 |mk (a:Addr) (y:V) (us:List V) (rss:LLI) (ts:List Int) (j n:Nat) (_:vs=[.ref a,y,.int j]) (_:H a=some (.tup us)) (_:Its H us rss) (_:IT H y ts) (_:ts.length<=1000) (_:j<n) (_:n<=1000) (_:Rs n rss) (_:∀H',Same H H'->Q (.int (O7 rss ts j)) H'):IspPullOf  vs H Q E
def a5t:Sp:=λvs H Q E=>IspPullOf  vs H Q E
theorem a6F:FnScope ["rows","totals","j"] ["rows","totals","j"] (A1 X4):=⟨rfl,rfl,rfl,by decide +kernel,rfl,by decide +kernel,by decide +kernel⟩
theorem a6V(F:FunAt K mg "pull_of" X4 ["rows","totals","j"])(T:Tx mg):Ok P w K mg base "pull_of" 1 ["rows","totals","j"] a5t:=by
 refine F.okJ a6F (λvs H Q E h=>?_) (λm f A outer s H vs Q E c h=>?_)
 .obtain⟨a,y,us,rss,ts,j,n,rfl,_⟩:=h;rfl
 .obtain⟨a,_,us,rss,ts,j,n,rfl,ha,hI,⟨b,rfl,hb⟩,hl,hj,hn,hR,k⟩:=h;refine⟨_,(A4 (B0 (b1M K rfl T.b_sum (jaC (C0 (N:=["total","row","j"]) (src:=[none,none,some 2]) (a2K K rfl T.b_zip (jaC (jv 1) (jaC (jv 0) jaN))) (by show B7 _ _=true;rfl) (by rfl) (by rfl)
 (λ_ _ _ _ _=>(T3 K 2 (B4 (A8 (i:=0) (show(["total","row","j"]:List Str).Nodup by decide +kernel) rfl (Or.inl rfl)) (B4 (A8 (i:=1) (show(["total","row","j"]:List Str).Nodup by decide +kernel) rfl (Or.inl rfl)) M6)))) (λ_ _ _ _ _=>D4) (λ_ _ _ _ _=>(Z9 (jv 0) (W2 K (jv 1) (jv 2))))) jaN)))),?_⟩
  refine⟨_,rfl,_,rfl,true,true,b,a,rfl,⟨_,SqT.of hb⟩,⟨_,SqT.of ha⟩,?_⟩;refine a9Z (caps:=[some (.int j)]) (λt r=>V.int (t*r.getD j 0)) hl (λH' s=>⟨sqt (s _ _ hb),sqt (s _ _ ha)⟩) hI rfl (λx v r H1 l _ c e _ q=>?_) λH1 p s hp=>?_
  .obtain⟨va,rfl,hva⟩:=e;obtain⟨g,d⟩:=hR r c;exact⟨_,rfl,_,rfl,_,rfl,va,_,_,_,rfl,rfl,SqT.of hva,a0g (by omega),_,_,rfl,rfl,.inr (d.at (by omega)),q⟩
  .rw[a5b (λt r=>t*List.getD r j 0) V.int];exact⟨false,p,_,rfl,SqL.of A0,k _ (s.upd hp)⟩
inductive IspFalls(vs:List V)(H:Hp)(Q:VK)(E:XK):Prop
 |mk (a:Addr) (y:V) (us:List V) (rss:LLI) (ys:List Int) (_:vs=[.ref a,y]) (_:H a=some (.tup us)) (_:Its H us rss) (_:IT H y ys) (_:us.length<=1000) (_:ys.length<=1000) (_:Rs ys.length rss) (_:Sm ys) (_:∀v H',Same H H'->IT H' v (((List.range ys.length).filter λj=>decide (a0G rss ys j<0)).map λ(i:Nat)=>(i:Int))->Q v H'):IspFalls  vs H Q E
def a7S:Sp:=λvs H Q E=>IspFalls  vs H Q E
theorem sc_falls:FnScope ["rows","one","totals"] ["rows","one"] (A1 a1P):=⟨rfl,rfl,rfl,by decide +kernel,rfl,by decide +kernel,by decide +kernel⟩
theorem b1v(F:FunAt K mg "falls" a1P ["rows","one"])(T:Tx mg)(b:Ok P w K mg base "pull_of" 1 ["rows","totals","j"] a5t)(c:Ok P w K mg base "sums" 2 ["rows","one"] a6B):Ok P w K mg base "falls" 3 ["rows","one"] a7S:=by
 refine F.okJ sc_falls (λvs H Q E h=>?_) (λt f A outer s H vs Q E d h=>?_)
 .obtain⟨a,y,us,rss,ts,rfl,_⟩:=h;rfl
 .obtain⟨a,y,us,rss,ys,rfl,ha,hI,hy,hl,hn,hR,hs,k⟩:=h;refine⟨_,(A3 (B2 (i:=2) sc_falls.nd rfl (Or.inr rfl) (A7 c (d.mono (by omega)) rfl (jaC (jv 0) (jaC (jv 1) jaN))))
 (A4 (B0 (B8 K rfl T.b_tuple (jaC (C0 (N:=["j","rows","totals"]) (src:=[none,some 0,some 2]) (J7 rfl T.b_range (jaC (L3 K rfl T.b_len (jaC (jv 1) jaN)) jaN)) (by show B7 _ _=true;rfl) (by rfl) (by rfl)
 (λ_ _ _ _ _=>(A8 (i:=0) (show(["j","rows","totals"]:List Str).Nodup by decide +kernel) rfl (Or.inl rfl))) (λ_ _ _ _ _=>(W0 (b1G (A7 b (d.mono (by omega)) rfl (jaC (jv 1) (jaC (jv 2) (jaC (jv 0) jaN)))) A5))) (λ_ _ _ _ _=>(jv 0))) jaN))))),?_⟩
  refine⟨_,rfl,_,rfl,a,y,us,rss,ys,rfl,ha,hI,hy,hl,λr d=>by rw[(hR r d).1];exact hn,hs,λv H1 s1 m=>?_⟩;dsimp only[A9];obtain⟨g,rfl,e⟩:=hy.same s1;refine⟨_,rfl,g,_,rfl,.inr (SqT.of e),_,rfl,by omega,by rw[List.length_map];omega,?_⟩;rw[Int.toNat_natCast,List.length_map];refine a6L (caps:=[some (.ref a),some v]) (λj=>decide (a0G rss ys j<0)) hn rfl (λi H2 o hi s2 q=>?_) λH2 p s2 hp=>?_
  .refine⟨_,rfl,_,rfl,_,rfl,a,v,us,rss,_,i,ys.length,rfl,(s1.trans s2) _ _ ha,hI.same (s1.trans s2),m.same s2,by rw[List.length_map,<-hI.1];exact hl,hi,hn,hR,λu n=>?_⟩;exact⟨_,_,rfl,rfl,_,rfl,q _ n⟩
  .refine⟨p,_,rfl,.inl ⟨SqL.of A0,λl hl=>?_⟩⟩;exact k _ _ (s1.trans ((s2.upd hp).upd hl)) ⟨l,rfl,A0⟩
end
theorem b2l(x y:Int)(xs ys:List Int):dot (x::xs) (y::ys)=x*y+dot xs ys:=by unfold dot;rw[List.zipWith_cons_cons,List.sum_cons]
theorem a3T:∀(xs ys:List Int),xs.length=ys.length->dot xs ys=((List.range ys.length).map λj=>xs.getD j 0*ys.getD j 0).sum
 |[],[],_=>rfl
 |x::xs,y::ys,h=>by
  rw[b2l,a3T xs ys (by simpa using h),List.length_cons,List.range_succ_eq_map,List.map_cons,List.sum_cons,List.map_map];rfl
theorem a7K(l:List Nat)(f g:Nat->Int):(l.map λj=>f j+g j).sum=(l.map f).sum+(l.map g).sum:=by
 induction l with
 |nil=>rfl
 |cons x l ih=>simp only[List.map_cons,List.sum_cons,ih];omega
theorem a4g(l:List Nat)(c:Int)(f:Nat->Int):(l.map λj=>c*f j).sum=c*(l.map f).sum:=by
 induction l with
 |nil=>simp
 |cons x l ih=>simp only[List.map_cons,List.sum_cons,ih,Int.mul_add]
noncomputable def bump(now:List Int)(j:Nat):List Int:=now.set j (now.getD j 0+1)
noncomputable def Pl(rss:LLI)(now xs:List Int):List Nat:=(List.range xs.length).filter λj=>decide (now.getD j 0<xs.getD j 0) && (Ans rss now || decide (a0G rss now j<0))
def Under(now xs:List Int):Prop:=now.length=xs.length/\∀j,j<xs.length->now.getD j 0<=xs.getD j 0
theorem E4(now:List Int)(j:Nat):(bump now j).length=now.length:=List.length_set
theorem a6S{rss:LLI}{now xs:List Int}{j:Nat}(h:j∈Pl rss now xs):j<xs.length/\now.getD j 0<xs.getD j 0:=by
 unfold Pl at h;rw[List.mem_filter,List.mem_range,Bool.and_eq_true,decide_eq_true_eq]at h;exact⟨h.1,h.2.1⟩
theorem a0E(now:List Int)(j k:Nat)(a:j<now.length):(bump now j).getD k 0=if k=j then now.getD j 0+1 else now.getD k 0:=by
 unfold bump;rw[List.getD_eq_getElem?_getD,List.getElem?_set];by_cases e:j=k
 .subst e;rw[if_pos rfl,if_pos a,if_pos rfl];rfl
 .rw[if_neg e,if_neg (Ne.symm e),List.getD_eq_getElem?_getD]
theorem Under.bump{rss:LLI}{now xs:List Int}{j:Nat}(h:Under now xs)(b:j∈Pl rss now xs):Under (bump now j) xs:=by
 obtain⟨h1,h2⟩:=a6S b;refine⟨by rw[E4];exact h.1,λk a=>?_⟩;rw[a0E _ _ _ (by rw[h.1];exact h1)];by_cases e:k=j
 .rw[if_pos e,e];omega
 .rw[if_neg e];exact h.2 k a
theorem a7I:∀(xs:List Int) (k:Nat) (z:Int),k<xs.length->(xs.set k z).sum=xs.sum-xs.getD k 0+z
 |[],_,_,h=>by simp at h
 |x::xs,0,z,_=>by rw[List.set_cons_zero,List.sum_cons,List.sum_cons,List.getD_cons_zero];omega
 |x::xs,k+1,z,h=>by rw[List.set_cons_succ,List.sum_cons,List.sum_cons,List.getD_cons_succ,a7I xs k z (by simpa using h)];omega
theorem a0D(now:List Int)(j:Nat)(h:j<now.length):(bump now j).sum=now.sum+1:=by
 unfold bump;rw[a7I _ _ _ h];omega
theorem Under.tail{x y:Int}{xs ys:List Int}(h:Under (x::xs) (y::ys)):x<=y/\Under xs ys :=
 ⟨by simpa using h.2 0 (by simp),by simpa using h.1,λj a=>by simpa using h.2 (j+1) (by simpa using a)⟩
theorem Under.sum:∀{xs ys:List Int},Under xs ys->xs.sum<=ys.sum/\(xs≠ys->xs.sum<ys.sum)
 |[],[],_=>⟨Int.le_refl _,λh=>absurd rfl h⟩
 |[],_::_,h=>by have:=h.1;simp at this
 |_::_,[],h=>by have:=h.1;simp at this
 |x::xs,y::ys,h=>by
  obtain⟨h1,h2⟩:=h.tail;obtain⟨b,a⟩:=Under.sum h2;rw[List.sum_cons,List.sum_cons];refine⟨by omega,λne=>?_⟩;by_cases e:xs=ys
  .subst e;have:x≠y:=λq=>ne (by rw[q]);omega
  .have:=a e;omega
theorem Under.ne:∀{xs ys:List Int},Under xs ys->xs≠ys->∃j,j<ys.length/\xs.getD j 0<ys.getD j 0
 |[],[],_,h=>absurd rfl h
 |[],_::_,h,_=>by have:=h.1;simp at this
 |_::_,[],h,_=>by have:=h.1;simp at this
 |x::xs,y::ys,h,ne=>by
  obtain⟨h1,h2⟩:=h.tail;by_cases e:xs=ys
  .subst e;have:x≠y:=λq=>ne (by rw[q]);exact⟨0,by simp,by simp;omega⟩
  .obtain⟨j,q1,q2⟩:=Under.ne h2 e;exact⟨j+1,by simpa using q1,by simpa using q2⟩
theorem b0o(l:List Int)(h:∀x∈l,0<=x):0<=l.sum:=by
 induction l with
 |nil=>exact Int.le_refl _
 |cons x l ih =>
  rw[List.sum_cons];have:=h x (List.mem_cons_self ..);have:=ih λy a=>h y (List.mem_cons_of_mem _ a);omega
theorem a7J(l:List Int)(h:∀x∈l,0<=x)(y:Int)(b:y∈l)(hp:0<y):0<l.sum:=by
 induction l with
 |nil=>cases b
 |cons x l ih =>
  rw[List.sum_cons];have c:=h x (List.mem_cons_self ..);have hl:=b0o l λz a=>h z (List.mem_cons_of_mem _ a);rcases List.mem_cons.mp b with q|q
  .omega
  .have:=ih (λz a=>h z (List.mem_cons_of_mem _ a)) q;omega
theorem a1o(t:Int):0<=t*t:=by
 rcases Int.le_total 0 t with h|h
 .exact Int.mul_nonneg h h
 .have:=Int.mul_nonneg (a := -t) (b := -t) (by omega) (by omega);rwa[Int.neg_mul_neg]at this
theorem a2c(ys:List Int):∀(rss:LLI) (a:List Int),(∀r∈rss,r.length=ys.length)->a.length=rss.length ->
  ((List.range ys.length).map λj=>O7 rss a j*ys.getD j 0).sum=(List.zipWith (λt r=>t*dot r ys) a rss).sum
 |[],[],_,_=>by
  have e:((List.range ys.length).map λj=>O7 [] [] j*ys.getD j 0)=(List.range ys.length).map λj=>0*ys.getD j 0:=rfl;rw[e,a4g,Int.zero_mul];rfl
 |[],_::_,_,h=>by simp at h
 |_::_,[],_,h=>by simp at h
 |r::rss,t::a,h,hl=>by
  have ih:=a2c ys rss a (λq b=>h q (List.mem_cons_of_mem _ b)) (by simpa using hl);rw[List.zipWith_cons_cons,List.sum_cons,<-ih];have e:(λj=>O7 (r::rss) (t::a) j*ys.getD j 0)=λj=>t*(r.getD j 0*ys.getD j 0)+O7 rss a j*ys.getD j 0:=by
   funext j;unfold O7;rw[List.zipWith_cons_cons,List.sum_cons,Int.add_mul,Int.mul_assoc]
  rw[e,a7K,a4g,<-a3T r ys (h r (List.mem_cons_self ..))]
theorem a7M:∀(rss:LLI) (now xs:List Int),Ans rss xs=true->(List.zipWith (λt r=>t*dot r xs) (rss.map λr=>dot r now) rss).sum=0
 |[],_,_,_=>rfl
 |r::rss,now,xs,h=>by
  unfold Ans at h;rw[List.all_cons,Bool.and_eq_true,decide_eq_true_eq]at h;rw[List.map_cons,List.zipWith_cons_cons,List.sum_cons,h.1,a7M rss now xs h.2];omega
theorem b5i(rss:LLI)(now:List Int)(h:Ans rss now=false):0<(List.zipWith (λt r=>t*dot r now) (rss.map λr=>dot r now) rss).sum:=by
 have e:List.zipWith (λt r=>t*dot r now) (rss.map λr=>dot r now) rss=rss.map λr=>dot r now*dot r now:=by
  clear h;induction rss with
  |nil=>rfl
  |cons r rss ih=>rw[List.map_cons,List.zipWith_cons_cons,List.map_cons,ih]
 rw[e];have:∃r∈rss,dot r now≠0:=by
  refine Classical.byContradiction λq=>?_;have:Ans rss now=true:=by
   unfold Ans;rw[List.all_eq_true];intro r a;rw[decide_eq_true_eq];exact Classical.byContradiction λz=>q ⟨r,a,z⟩
  rw[this]at h;cases h
 obtain⟨r,a,b⟩:=this;refine a7J _ (λx c=>?_) (dot r now*dot r now) (List.mem_map.mpr ⟨r,a,rfl⟩) ?_
 .obtain⟨q,_,rfl⟩:=List.mem_map.mp c;exact a1o _
 .have h1:=a1o (dot r now);have h2:dot r now*dot r now≠0:=λz=>by
   rcases Int.mul_eq_zero.mp z with q|q<;>exact b q
  omega
theorem b4N(rss:LLI)(now xs:List Int)(hR:∀r∈rss,r.length=xs.length)(b:Under now xs)(f:now≠xs)(p:Ans rss xs=true):Pl rss now xs≠[]:=by
 intro a;unfold Pl at a;rw[List.filter_eq_nil_iff]at a;cases ha:Ans rss now with
 |true =>
  obtain⟨j,h1,h2⟩:=b.ne f;refine a j (List.mem_range.mpr h1) ?_;rw[ha,Bool.and_eq_true,decide_eq_true_eq];exact⟨h2,rfl⟩
 |false =>
  have p1:=a2c now rss (rss.map λr=>dot r now) (λr k=>by rw[hR r k,b.1]) (by simp);have p2:=a2c xs rss (rss.map λr=>dot r now) hR (by simp);have t:=b5i rss now ha;have o:=a7M rss now xs p;rw[b.1]at p1;have m:((List.range xs.length).map λj=>O7 rss (rss.map λr=>dot r now) j*now.getD j 0+(-1)*(O7 rss (rss.map λr=>dot r now) j*xs.getD j 0)).sum<=0:=by
   have hs:∀(l:List Int),(∀x∈l,x<=0)->l.sum<=0:=λl hl=>by
    induction l with
    |nil=>exact Int.le_refl _
    |cons x l ih =>
     rw[List.sum_cons];have:=hl x (List.mem_cons_self ..);have:=ih λy n=>hl y (List.mem_cons_of_mem _ n);omega
   refine hs _ λx h=>?_;obtain⟨j,g,rfl⟩:=List.mem_map.mp h;have c:=List.mem_range.mp g;have i:=b.2 j c;have e:O7 rss (rss.map λr=>dot r now) j*now.getD j 0+(-1)*(O7 rss (rss.map λr=>dot r now) j*xs.getD j 0) = -(O7 rss (rss.map λr=>dot r now) j*(xs.getD j 0-now.getD j 0)):=by
    rw[Int.mul_sub];omega
   rw[e];by_cases d:now.getD j 0<xs.getD j 0
   .have hp:0<=O7 rss (rss.map λr=>dot r now) j:=by
     have q:=a j g;rw[ha]at q;have s:¬a0G rss now j<0:=λz=>q (by simp only[Bool.false_or,Bool.and_eq_true,decide_eq_true_eq];exact⟨d,z⟩);show 0<=a0G rss now j;omega
    have:=Int.mul_nonneg hp (show 0<=xs.getD j 0-now.getD j 0 by omega);omega
   .have:xs.getD j 0-now.getD j 0=0:=by omega
    rw[this,Int.mul_zero];exact Int.le_refl _
  rw[a7K,a4g,p1,p2,o]at m;omega
section
variable {P:Program}{w:World}{K:PySem.W.Frag}{mg:Str->Option Value}{base:Heap}
inductive IspBelow(vs:List V)(H:Hp)(Q:VK)(E:XK):Prop
 |mk (x:_) (y:_) (xs:_) (ys:_) (_:vs=[x,y]) (_:IT H x xs) (_:IT H y ys) (_:xs.length<=1000) (_:∀H',Same H H'->Q (.bl (Bel xs ys)) H'):IspBelow  vs H Q E
def a1K:Sp:=λvs H Q E=>IspBelow  vs H Q E
theorem b0F:FnScope ["one","other"] ["one","other"] (A1 a1Q):=⟨rfl,rfl,rfl,by decide +kernel,rfl,by decide +kernel,by decide +kernel⟩
theorem b1x(F:FunAt K mg "below" a1Q ["one","other"])(T:Tx mg):Ok P w K mg base "below" 1 ["one","other"] a1K:=by
 refine F.okJ b0F (λvs H Q E h=>?_) (λg f A outer s H vs Q E d h=>?_)
 .obtain⟨x,y,xs,ys,rfl,_⟩:=h;rfl
 .obtain⟨_,_,xs,ys,rfl,⟨a,rfl,ha⟩,⟨b,rfl,hb⟩,hl,k⟩:=h;refine⟨_,(A4 (B0 (P6 K rfl T.b_all (jaC (C0 (N:=["a","b"]) (src:=[none,none]) (a2K K rfl T.b_zip (jaC (jv 0) (jaC (jv 1) jaN))) (by show B7 _ _=true;rfl) (by rfl) (by rfl)
 (λ_ _ _ _ _=>(T3 K 2 (B4 (A8 (i:=0) (show(["a","b"]:List Str).Nodup by decide +kernel) rfl (Or.inl rfl)) (B4 (A8 (i:=1) (show(["a","b"]:List Str).Nodup by decide +kernel) rfl (Or.inl rfl)) M6)))) (λ_ _ _ _ _=>D4) (λ_ _ _ _ _=>(b4T (jv 0) (jv 1)))) jaN)))),?_⟩
  refine⟨_,rfl,_,rfl,true,true,a,b,rfl,⟨_,SqT.of ha⟩,⟨_,SqT.of hb⟩,?_⟩;refine b0b (caps:=[]) (λx y=>V.bl (decide (x<=y))) (sqt ha) (sqt hb) hl (λH' s=>⟨sqt (s _ _ ha),sqt (s _ _ hb)⟩) rfl (λx y H1 e _ q=>⟨_,rfl,_,rfl,_,_,rfl,rfl,q⟩) λH1 p s hp=>?_;refine⟨false,p,_,rfl,SqL.of A0,?_,?_⟩
  .rw[List.all_eq_true];intro v c;obtain⟨i,hi,rfl⟩:=List.mem_iff_getElem.mp c;rw[List.getElem_zipWith];rfl
  .rw[b6W];exact k _ (s.upd hp)
inductive IspUnit(vs:List V)(H:Hp)(Q:VK)(E:XK):Prop
 |mk (wd:Int) (n j:Nat) (_:vs=[.int wd,.int j]) (_:wd=n) (_:n<=1000) (_:j<n) (_:∀v H',Same H H'->IT H' v ((List.range n).map λi=>if i=j then 1 else 0)->Q v H'):IspUnit  vs H Q E
def b0q:Sp:=λvs H Q E=>IspUnit  vs H Q E
theorem b2W:FnScope ["width","j"] ["width","j"] (A1 a4w):=⟨rfl,rfl,rfl,by decide +kernel,rfl,by decide +kernel,by decide +kernel⟩
theorem b3K(F:FunAt K mg "unit" a4w ["width","j"])(T:Tx mg):Ok P w K mg base "unit" 1 ["width","j"] b0q:=by
 refine F.okJ b2W (λvs H Q E h=>?_) (λd f A outer s H vs Q E b h=>?_)
 .obtain⟨_,n,j,rfl,_⟩:=h;rfl
 .obtain⟨_,n,j,rfl,rfl,hn,hj,k⟩:=h;refine⟨_,(A4 (B0 (B8 K rfl T.b_tuple (jaC (C0 (N:=["k","j"]) (src:=[none,some 1]) (J7 rfl T.b_range (jaC (jv 0) jaN)) (by show B7 _ _=true;rfl) (by rfl) (by rfl)
 (λ_ _ _ _ _=>(A8 (i:=0) (show(["k","j"]:List Str).Nodup by decide +kernel) rfl (Or.inl rfl))) (λ_ _ _ _ _=>D4) (λ_ _ _ _ _=>(b7A (a8j (jv 0) (jv 1)) A5 A5))) jaN)))),?_⟩
  refine⟨_,rfl,n,rfl,by omega,by omega,?_⟩;rw[Int.toNat_natCast];refine a6K (caps:=[some (.int j)]) (λi=>V.int (if i=j then 1 else 0)) hn rfl (λi H1 c hi _ q=>?_) λH1 p s hp=>?_
  .refine⟨_,rfl,_,rfl,rfl,_,rfl,a3n (λe=>?_) (λe=>?_)⟩
   .have e1:(i:Int)=(j:Int):=by simpa using e
    have a:i=j:=by omega
    rw[if_pos a]at q;exact q
   .have e1:¬(i:Int)=(j:Int):=by simpa using e
    have a:i≠j:=by omega
    rw[if_neg a]at q;exact q
  .rw[show((List.range n).map λi=>V.int (if i=j then 1 else 0))=((List.range n).map λi=>if i=j then(1:Int)else 0).map V.int by rw[List.map_map];rfl];refine⟨p,_,rfl,.inl ⟨SqL.of A0,λl hl=>?_⟩⟩;exact k _ _ ((s.upd hp).upd hl) ⟨l,rfl,A0⟩
noncomputable def cV:Option Int->V
 |none=>.non
 |some c=>.int c
noncomputable def a9K(c:Option Int)(x:Int):Bool:=match c with|none=>true|some c=>decide (x<=c)
noncomputable def Wi(cs:List (Option Int))(xs:List Int):Bool:=(List.zipWith a9K cs xs).all id
theorem b6X(cs:List (Option Int))(xs:List Int):(List.zipWith (λc x=>V.bl (a9K c x)) cs xs).all trV=Wi cs xs:=by
 unfold Wi;induction cs generalizing xs with
 |nil=>rfl
 |cons c cs ih =>
  cases xs with
  |nil=>rfl
  |cons x xs=>rw[List.zipWith_cons_cons,List.zipWith_cons_cons,List.all_cons,List.all_cons,ih];rfl
inductive IspWithin(vs:List V)(H:Hp)(Q:VK)(E:XK):Prop
 |mk (a b:Addr) (cs:List (Option Int)) (xs:List Int) (_:vs=[.ref a,.ref b]) (_:H a=some (.tup (cs.map cV))) (_:H b=some (.tup (xs.map V.int))) (_:cs.length<=1000) (_:∀H',Same H H'->Q (.bl (Wi cs xs)) H'):IspWithin  vs H Q E
def a2g:Sp:=λvs H Q E=>IspWithin  vs H Q E
theorem a8Q:FnScope ["caps","one"] ["caps","one"] (A1 a0p):=⟨rfl,rfl,rfl,by decide +kernel,rfl,by decide +kernel,by decide +kernel⟩
theorem a3H(F:FunAt K mg "within" a0p ["caps","one"])(T:Tx mg):Ok P w K mg base "within" 1 ["caps","one"] a2g:=by
 refine F.okJ a8Q (λvs H Q E h=>?_) (λj f A outer s H vs Q E e h=>?_)
 .obtain⟨a,b,cs,xs,rfl,_⟩:=h;rfl
 .obtain⟨a,b,cs,xs,rfl,ha,hb,hl,k⟩:=h;refine⟨_,(A4 (B0 (P6 K rfl T.b_all (jaC (C0 (N:=["cap","number"]) (src:=[none,none]) (a2K K rfl T.b_zip (jaC (jv 0) (jaC (jv 1) jaN))) (by show B7 _ _=true;rfl) (by rfl) (by rfl)
 (λ_ _ _ _ _=>(T3 K 2 (B4 (A8 (i:=0) (show(["cap","number"]:List Str).Nodup by decide +kernel) rfl (Or.inl rfl)) (B4 (A8 (i:=1) (show(["cap","number"]:List Str).Nodup by decide +kernel) rfl (Or.inl rfl)) M6)))) (λ_ _ _ _ _=>D4) (λ_ _ _ _ _=>(b7y (b6l (jv 0) a2L) (a1t (b4T (jv 1) (jv 0)))))) jaN)))),?_⟩
  refine⟨_,rfl,_,rfl,true,true,a,b,rfl,⟨_,SqT.of ha⟩,⟨_,SqT.of hb⟩,?_⟩;refine b2D (caps:=[]) cV V.int (λc x=>V.bl (a9K c x)) hl (λH' s=>⟨sqt (s _ _ ha),sqt (s _ _ hb)⟩) rfl (λc x H1 g _ _ _ q=>?_) λH1 p s hp=>?_
  .cases c with
   |none=>exact⟨_,rfl,rfl,true,rfl,F0 (q _ (Same.refl _))⟩
   |some c=>exact⟨_,rfl,rfl,false,rfl,D6 ⟨_,rfl,_,rfl,_,_,rfl,rfl,q _ (Same.refl _)⟩⟩
  refine⟨false,p,_,rfl,SqL.of A0,?_,?_⟩
  .rw[List.all_eq_true];intro v d;obtain⟨i,hi,rfl⟩:=List.mem_iff_getElem.mp d;rw[List.getElem_zipWith];rfl
  .rw[b6X];exact k _ (s.upd hp)
end
noncomputable def K6(n j:Nat):List Int:=(List.range n).map λi=>if i=j then(1:Int)else 0
noncomputable def J8(cs:List (Option Int)):LLI:=((List.range cs.length).map (K6 cs.length)).filter λu=>Wi cs u
noncomputable def a6l(c:Option Int)(x:Int):Bool:=match c with|none=>true|some c=>decide (x<c)
noncomputable def StP(rss:LLI)(cs:List (Option Int))(ys:List Int):List Nat:=((List.range ys.length).filter λj=>decide (a0G rss ys j<0)).filter λj=>a6l (cs.getD j none) (ys.getD j 0)
section
variable {P:Program}{w:World}{K:PySem.W.Frag}{mg:Str->Option Value}{base:Heap}
inductive IspFirst(vs:List V)(H:Hp)(Q:VK)(E:XK):Prop
 |mk (a:Addr) (cs:List (Option Int)) (_:vs=[.ref a]) (_:H a=some (.tup (cs.map cV))) (_:1<=cs.length) (_:cs.length<=100) (_:∀p zs tss H',Same H H'->H' p=some (.tup zs)->Its H' zs tss->tss.Perm (J8 cs)->C9 tss->Q (.ref p) H'):IspFirst  vs H Q E
def a4n:Sp:=λvs H Q E=>IspFirst  vs H Q E
theorem sc_first_steps:FnScope ["caps","units"] ["caps"] (A1 J9):=⟨rfl,rfl,rfl,by decide +kernel,rfl,by decide +kernel,by decide +kernel⟩
theorem a2v(F:FunAt K mg "first_steps" J9 ["caps"])(T:Tx mg)(c:Ok P w K mg base "unit" 1 ["width","j"] b0q)(b:Ok P w K mg base "within" 1 ["caps","one"] a2g):Ok P w K mg base "first_steps" 2 ["caps"] a4n:=by
 refine F.okJ sc_first_steps (λvs H Q E h=>?_) (λV f A outer s H vs Q E e h=>?_)
 .obtain⟨a,cs,rfl,_⟩:=h;rfl
 .obtain⟨a,cs,rfl,ha,h1,h2,k⟩:=h;have S:(3000:Nat)<=sizeLine:=by rw[sizeLine_eq];decide
  refine⟨_,(A3 (a1U (i:=1) sc_first_steps.nd rfl (Or.inl rfl) (N:=["j","caps"]) (src:=[none,some 0]) (J7 rfl T.b_range (jaC (L3 K rfl T.b_len (jaC (jv 0) jaN)) jaN)) (by show B7 _ _=true;rfl) (by rfl) (by rfl)
 (λ_ _ _ _ _=>(A8 (i:=0) (show(["j","caps"]:List Str).Nodup by decide +kernel) rfl (Or.inl rfl))) (λ_ _ _ _ _=>D4) (λ_ _ _ _ _=>(A7 c (e.mono (by omega)) rfl (jaC (L3 K rfl T.b_len (jaC (jv 1) jaN)) (jaC (jv 0) jaN)))))
 (A4 (B0 (B8 K rfl T.b_tuple (jaC (R0 K rfl T.b_sorted (jaC (C0 (N:=["one","caps"]) (src:=[none,some 0]) (E6 K (jv 1)) (by show B7 _ _=true;rfl) (by rfl) (by rfl)
 (λ_ _ _ _ _=>(A8 (i:=0) (show(["one","caps"]:List Str).Nodup by decide +kernel) rfl (Or.inl rfl))) (λ_ _ _ _ _=>(W0 (E2 K (A7 b (e.mono (by omega)) rfl (jaC (jv 1) (jaC (jv 0) jaN)))))) (λ_ _ _ _ _=>(jv 0))) jaN)) jaN))))),?_⟩
  refine⟨_,rfl,a,_,rfl,.inr (SqT.of ha),_,rfl,by rw[List.length_map];omega,by rw[List.length_map];omega,?_⟩;rw[Int.toNat_natCast,List.length_map];refine a0s (caps:=[some (.ref a)]) (by omega) rfl (λi ys H'=>Same H H'/\Its H' ys ((List.range i).map (K6 cs.length))) ⟨Same.refl H,.nil⟩ (λi ys H' h=>by rw[h.2.1];simp) ?_ ?_
  .rintro i ys H' hi ⟨s',hI⟩;refine⟨_,rfl,a,_,rfl,.inr (SqT.of (s' _ _ ha)),_,rfl,_,cs.length,i,rfl,by rw[List.length_map],by omega,hi,λv H2 s2 z=>⟨s'.trans s2,?_⟩⟩;rw[List.range_succ,List.map_append];exact(hI.same s2).snoc z
  .rintro ys H' ⟨s',hI⟩ p hp;dsimp only[A9];have s1:=s'.upd (o:=.lst ys) hp;have n:=hI.same ((Same.refl H').upd (o:=.lst ys) hp);have G:upd H' p (.lst ys) p=some (.lst ys):=A0;generalize upd H' p (.lst ys)=H1 at s1 n G;refine⟨_,rfl,p,rfl,⟨_,SqL.of G⟩,?_⟩;have R:ys.length=cs.length:=by rw[hI.1];simp
   refine a2C (caps:=[some (.ref a)]) (λu=>Wi cs u) (by omega) (λH2 s2=>SqL.of (s2 _ _ G)) n rfl (λv r H2 U e z s2 q=>?_) λH2 p2 d s2 m B=>?_
   .obtain⟨va,rfl,hva⟩:=z;exact⟨_,rfl,_,rfl,a,va,cs,r,rfl,(s1.trans s2) _ _ ha,hva,by omega,λI t=>⟨Wi cs r,rfl,q I t⟩⟩
   have t:=(s1.trans s2).upd (o:=.lst d) m;have g:=B.same ((Same.refl H2).upd (o:=.lst d) m);have L:upd H2 p2 (.lst d) p2=some (.lst d):=A0;generalize upd H2 p2 (.lst d)=I at t g L;refine⟨p2,d,_,rfl,.inl (SqL.of L),g,λr e=>?_,λl zs tss J D x y _=>?_⟩
   .obtain⟨j,_,rfl⟩:=List.mem_map.mp (List.mem_filter.mp e).1;simp[K6];omega
   refine⟨l,_,rfl,.inl ⟨SqL.of A0,λl2 C=>?_⟩⟩;have M:=(Same.refl I).upd (o:=.lst zs) J;have O:=(Same.refl (upd I l (.lst zs))).upd (o:=.tup zs) C;exact k l2 zs tss _ ((t.trans M).trans O) A0 ((D.same M).same O) x y
inductive IspRaised(vs:List V)(H:Hp)(Q:VK)(E:XK):Prop
 |mk (y:V) (ys:List Int) (j:Nat) (_:vs=[y,.int j]) (_:IT H y ys) (_:j<ys.length) (_:ys.length<=1000) (_:∀v H',Same H H'->IT H' v (bump ys j)->Q v H'):IspRaised  vs H Q E
def a5s:Sp:=λvs H Q E=>IspRaised  vs H Q E
theorem a8R:FnScope ["one","j"] ["one","j"] (A1 a0q):=⟨rfl,rfl,rfl,by decide +kernel,rfl,by decide +kernel,by decide +kernel⟩
theorem a9l(F:FunAt K mg "raised" a0q ["one","j"]):Ok P w K mg base "raised" 1 ["one","j"] a5s:=by
 refine F.okJ a8R (λvs H Q E h=>?_) (λc f A outer s H vs Q E b h=>?_)
 .obtain⟨y,ys,j,rfl,_⟩:=h;rfl
 .obtain⟨_,ys,j,rfl,⟨a,rfl,ha⟩,hj,hl,k⟩:=h;refine⟨_,(A4 (B0 (C5 (C5 (W1 K (jv 0) D9 (D8 (jv 1))) (N2 (jaC (L0 (W2 K (jv 0) (jv 1)) A5) jaN))) (W1 K (jv 0) (D8 (L0 (jv 1) A5)) D9)))),?_⟩;exact a6P (i:=0) (j:=1) (a:=a) (xs:=ys) (k:=j) (z:=ys.getD j 0+1) rfl rfl ha hj hl (λH' N s' q=>⟨_,rfl,_,rfl,a,_,_,_,rfl,rfl,SqT.of (s' _ _ ha),a0g hj,_,_,rfl,rfl,q⟩) k
inductive IspSteps(vs:List V)(H:Hp)(Q:VK)(E:XK):Prop
 |mk (a c:Addr) (y:V) (us:List V) (rss:LLI) (cs:List (Option Int)) (ys:List Int) (_:vs=[.ref a,.ref c,y]) (_:H a=some (.tup us)) (_:Its H us rss) (_:H c=some (.tup (cs.map cV))) (_:IT H y ys) (_:us.length<=1000) (_:ys.length<=100) (_:cs.length=ys.length) (_:Rs ys.length rss) (_:Sm ys) (_:∀p ps H',Same H H'->H' p=some (.lst ps)->Prs H' ps (bump ys) (StP rss cs ys)->Q (.ref p) H'):IspSteps  vs H Q E
def a4j:Sp:=λvs H Q E=>IspSteps  vs H Q E
theorem b2o{cs:List (Option Int)}{j:Nat}(h:j<cs.length):atI (cs.map cV) (j:Int)=some (cV (cs.getD j none)):=by
 refine Z2 ?_;rw[List.getElem?_map,List.getElem?_eq_getElem h];simp[List.getD_eq_getElem?_getD,h]
theorem sc_steps:FnScope ["rows","caps","one","places"] ["rows","caps","one"] (A1 a1M):=⟨rfl,rfl,rfl,by decide +kernel,rfl,by decide +kernel,by decide +kernel⟩
theorem b1p(F:FunAt K mg "steps" a1M ["rows","caps","one"])(T:Tx mg)(d:Ok P w K mg base "falls" 3 ["rows","one"] a7S)(b:Ok P w K mg base "raised" 1 ["one","j"] a5s):Ok P w K mg base "steps" 4 ["rows","caps","one"] a4j:=by
 refine F.okJ sc_steps (λvs H Q E h=>?_) (λU f A outer s H vs Q E G h=>?_)
 .obtain⟨a,c,y,us,rss,cs,ys,rfl,_⟩:=h;rfl
 .obtain⟨a,c,_,us,rss,cs,ys,rfl,ha,hI,hc,⟨y,rfl,hy⟩,hl,hn,hcl,hR,hs,k⟩:=h;have R:(3000:Nat)<=sizeLine:=by rw[sizeLine_eq];decide
  refine⟨_,(A3 (a1U (i:=3) sc_steps.nd rfl (Or.inl rfl) (N:=["j","caps","one"]) (src:=[none,some 1,some 2]) (L1 K (A7 d (G.mono (by omega)) rfl (jaC (jv 0) (jaC (jv 2) jaN)))) (by show B7 _ _=true;rfl) (by rfl) (by rfl)
 (λ_ _ _ _ _=>(A8 (i:=0) (show(["j","caps","one"]:List Str).Nodup by decide +kernel) rfl (Or.inl rfl))) (λ_ _ _ _ _=>(W0 (a4K (a8h (b6o (W2 K (jv 1) (jv 0)) a2L) (a4J (b1G (W2 K (jv 2) (jv 0)) (W2 K (jv 1) (jv 0)))))))) (λ_ _ _ _ _=>(jv 0)))
 (A4 (B0 (C0 (N:=["j","one"]) (src:=[none,some 2]) (E6 K (jv 3)) (by show B7 _ _=true;rfl) (by rfl) (by rfl)
 (λ_ _ _ _ _=>(A8 (i:=0) (show(["j","one"]:List Str).Nodup by decide +kernel) rfl (Or.inl rfl))) (λ_ _ _ _ _=>D4) (λ_ _ _ _ _=>(N2 (jaC (jv 0) (jaC (A7 b (G.mono (by omega)) rfl (jaC (jv 1) (jaC (jv 0) jaN))) jaN)))))))),?_⟩
  refine⟨_,rfl,_,rfl,a,_,us,rss,ys,rfl,ha,hI,⟨y,rfl,hy⟩,hl,by omega,hR,hs,λv H1 s1 r=>?_⟩;obtain⟨va,rfl,hva⟩:=r;refine⟨va,rfl,⟨_,SqT.of hva⟩,?_⟩;rw[List.map_map]at hva;have m:∀j∈(List.range ys.length).filter (λj=>decide (a0G rss ys j<0)),j<ys.length:=λj g=>List.mem_range.mp (List.mem_filter.mp g).1;have B:((List.range ys.length).filter (λj=>decide (a0G rss ys j<0))).length<=ys.length:=Nat.le_trans (List.length_filter_le _ _) (by simp);refine a8F (caps:=[some (.ref c),some (.ref y)]) (λ(j:Nat)=>V.int j) (λj=>a6l (cs.getD j none) (ys.getD j 0)) (by omega) (λH' s=>SqT.of (s _ _ hva)) rfl (λj H2 S g s2 q=>?_) λH2 p2 s2 u=>?_
  .have hj':=m j g;refine⟨_,rfl,_,rfl,c,_,_,_,rfl,rfl,SqT.of ((s1.trans s2) _ _ hc),b2o (by omega),rfl,_,rfl,?_⟩;cases e:cs.getD j none with
   |none =>
    rw[e]at q;exact F0 (q _ (Same.refl _))
   |some z =>
    rw[e]at q;refine D6 ⟨_,rfl,_,rfl,y,_,_,_,rfl,rfl,SqT.of ((s1.trans s2) _ _ hy),a0g hj',_,rfl,_,rfl,c,_,_,_,rfl,rfl,SqT.of ((s1.trans s2) _ _ hc),b2o (by omega),?_⟩;rw[e];exact⟨_,_,rfl,rfl,_,rfl,q _ (Same.refl _)⟩
  have C:=(s1.trans s2).upd (o:=.lst ((StP rss cs ys).map λ(j:Nat)=>V.int j)) u;have p:upd H2 p2 (.lst ((StP rss cs ys).map λ(j:Nat)=>V.int j)) p2=some (.lst ((StP rss cs ys).map λ(j:Nat)=>V.int j)):=A0;have D:∀j∈StP rss cs ys,j<ys.length:=λj g=>m j (List.mem_filter.mp g).1;have M:(StP rss cs ys).length<=ys.length:=Nat.le_trans (List.length_filter_le _ _) B;have L:((List.range ys.length).filter λj=>decide (a0G rss ys j<0)).filter (λj=>a6l (cs.getD j none) (ys.getD j 0))=StP rss cs ys:=rfl;rw[L];dsimp only[A9];generalize upd H2 p2 (.lst ((StP rss cs ys).map λ(j:Nat)=>V.int j))=I at C p;refine⟨_,rfl,p2,rfl,⟨_,SqL.of p⟩,?_⟩;refine R5 (xs:=(StP rss cs ys).map λ(j:Nat)=>V.int j) (by rw[List.length_map];omega) (λi qs H'=>Same I H'/\Prs H' qs (bump ys) ((StP rss cs ys).take i)) ⟨Same.refl I,Prs.nil⟩ (λi qs H' _ h=>⟨SqL.of (h.1 _ _ p),by rw[h.2.1];exact List.length_take_le _ _⟩) ?_ ?_
  .rintro i x qs H' hx ⟨s',hP⟩;rw[List.getElem?_map]at hx;cases n:(StP rss cs ys)[i]? with
   |none=>rw[n]at hx;cases hx
   |some j =>
    rw[n]at hx;cases hx;have g:=D j (List.mem_of_getElem? n);refine⟨Sub.one,_,rfl,_,rfl,_,rfl,_,ys,j,rfl,⟨y,rfl,(C.trans s') _ _ hy⟩,g,by omega,λv O J r=>?_⟩;refine⟨by show 2<=sizeLine;omega,λW t=>?_⟩;have l:=(Same.refl O).upd (o:=.tup [.int j,v]) t;refine⟨(s'.trans J).trans l,?_⟩;rw[List.take_add_one,n];exact((hP.same J).same l).snoc A0 (r.same l)
  .rintro qs H' ⟨s',hP⟩ p4 hp4;rw[List.length_map,List.take_length]at hP;have l:=(Same.refl H').upd (o:=.lst qs) hp4;exact k p4 qs _ ((C.trans s').trans l) A0 (hP.same l)
noncomputable def Bar(fss:LLI)(ys:List Int)(j:Nat):Bool:=fss.any λf=>decide (f.getD j 0=ys.getD j 0) && Bel f ys
inductive IspBarred(vs:List V)(H:Hp)(Q:VK)(E:XK):Prop
 |mk (l:Addr) (y:V) (fs:List V) (fss:LLI) (ys:List Int) (j:Nat) (_:vs=[.ref l,y,.int j]) (_:H l=some (.lst fs)) (_:Its H fs fss) (_:IT H y ys) (_:j<ys.length) (_:ys.length<=1000) (_:(∀f∈fss,f.length=ys.length)) (_:∀H',Same H H'->Q (.bl (Bar fss ys j)) H'):IspBarred  vs H Q E
def a5u:Sp:=λvs H Q E=>IspBarred  vs H Q E
theorem sc_is_barred:FnScope ["found","one","j","answer"] ["found","one","j"] (A1 O1):=⟨rfl,rfl,rfl,by decide +kernel,rfl,by decide +kernel,by decide +kernel⟩
theorem a4E(F:FunAt K mg "is_barred" O1 ["found","one","j"])(T:Tx mg)(c:Ok P w K mg base "below" 1 ["one","other"] a1K):Ok P w K mg base "is_barred" 2 ["found","one","j"] a5u:=by
 refine F.okJ sc_is_barred (λvs H Q E h=>?_) (λz f A outer s H vs Q E m h=>?_)
 .obtain⟨l,y,fs,fss,ys,j,rfl,_⟩:=h;rfl
 .obtain⟨l,_,fs,fss,ys,j,rfl,hl,hI,⟨y,rfl,hy⟩,hj,hn,hL,k⟩:=h;refine⟨_,(A3 (N1 (E6 K (jv 0)) (A8 (i:=3) sc_is_barred.nd rfl (Or.inl rfl))
 (A4 (E8 (a4K (a2J (a8j (W2 K (jv 3) (jv 2)) (W2 K (jv 1) (jv 2))) (a0x (E2 K (A7 c (m.mono (by omega)) rfl (jaC (jv 3) (jaC (jv 1) jaN)))))))
 (A4 (B0 N3))
 C8)))
 (A4 (B0 N3))),?_⟩
  refine⟨_,rfl,l,rfl,⟨_,SqL.of hl⟩,?_⟩;refine N4 (K:=K) (a:=l) (xs:=fs) (λi σ H'=>Ex1 λo=>An3 (σ=[some (.ref l),some (.ref y),some (.int j),o]) (Same H H') (Bar (fss.take i) ys j=false)) ⟨none,rfl,Same.refl H,rfl⟩ (λi σ H' _ ⟨_,_,s',_⟩=>SqL.of (s' _ _ hl)) ?_ ?_
  .rintro i x σ H' hx ⟨o,rfl,s',hB⟩;obtain⟨r,m,n,p⟩:=hI.mem hx;obtain⟨t,rfl,g⟩:=p.same s';have v:=hL r m;have d:Bar (fss.take (i+1)) ys j=(decide (r.getD j 0=ys.getD j 0) && Bel r ys):=by
    unfold Bar at hB⊢;rw[List.take_add_one,n,List.any_append,hB];simp
   have b:(decide (r.getD j 0=ys.getD j 0) && Bel r ys)=true->Bar fss ys j=true:=λe=>by
    unfold Bar;rw[List.any_eq_true];exact⟨r,m,e⟩
   dsimp only[A9];refine⟨_,rfl,_,rfl,t,_,_,_,rfl,rfl,SqT.of g,a0g (by omega),_,rfl,_,rfl,y,_,_,_,rfl,rfl,SqT.of (s' _ _ hy),a0g hj,rfl,_,rfl,?_⟩;have u:decide (V.int (r.getD j 0)=V.int (ys.getD j 0))=decide (r.getD j 0=ys.getD j 0):=by simp
   rw[u];cases e:decide (r.getD j 0=ys.getD j 0)with
   |false =>
    rw[e]at d;refine D6 (D6 ?_);exact⟨_,rfl,s',d⟩
   |true =>
    rw[e]at d b;refine F0 ⟨_,rfl,_,rfl,_,_,r,ys,rfl,⟨t,rfl,g⟩,⟨y,rfl,s' _ _ hy⟩,by omega,λH2 s2=>⟨_,rfl,?_⟩⟩;cases q:Bel r ys with
    |false =>
     rw[q]at d;exact D6 ⟨_,rfl,s'.trans s2,d⟩
    |true =>
     rw[q]at b;refine F0 ?_;have:=k H2 (s'.trans s2);rw[b rfl]at this;exact this
  .rintro σ H' ⟨o,rfl,s',hB⟩;rw[hI.1,List.take_length]at hB;have:=k H' s';rw[hB]at this;exact this
end
def a0H(rss:LLI)(cs:List (Option Int))(F:LLI)(u v:List Int):Prop:=∃j,j∈StP rss cs u/\v=bump u j/\Bar F v j=false
theorem b4g{a b:List Int}(h:a.map (Sum.inl:Int->Key)=b.map Sum.inl):a=b:=by
 induction a generalizing b with
 |nil=>cases b with|nil=>rfl|cons _ _=>cases h
 |cons x a ih =>
  cases b with
  |nil=>cases h
  |cons y b =>
   injection h with h1 h2
   injection h1 with h1
   rw[h1,ih h2]
theorem a2H{kvs:List (List Key×V)}{a:LLI}{r:List Int}(e:kvs.map (·.1)=IK a):Q0 kvs (r.map Sum.inl)=none↔r∉a:=by
 constructor
 .intro h hm;refine b0g h ?_;rw[e];exact List.mem_map.mpr ⟨r,hm,rfl⟩
 .intro h;cases b:Q0 kvs (r.map Sum.inl)with
  |none=>rfl
  |some v =>
   have:=b2I b;rw[e]at this;obtain⟨q,c,d⟩:=List.mem_map.mp this;exact absurd (b4g d ▸ c) h
theorem a5X{kvs:List (List Key×V)}{a:LLI}{r:List Int}(e:kvs.map (·.1)=IK a):(Q0 kvs (r.map Sum.inl)).isSome=decide (r∈a):=by
 by_cases h:r∈a
 .rw[decide_eq_true h];cases b:Q0 kvs (r.map Sum.inl)with
  |none=>exact absurd h ((a2H e).mp b)
  |some v=>rfl
 .rw[decide_eq_false h,(a2H e).mpr h];rfl
theorem a7c(r:List Int):(r.map (Sum.inl:Int->Key)).map kV=r.map V.int:=by rw[List.map_map];rfl
theorem b4f{H H':Hp}{vs:List V}{rss:LLI}{d:Addr}{kvs:List (List Key×V)}(h:Its H vs rss)(hd:H d=some (.dT kvs))(o:Off [d] H H'):Its H' vs rss :=
 ⟨h.1,λi v e=>let ⟨r,e1,a,e2,q⟩:=h.2 i v e;⟨r,e1,a,e2,o _ _ (by simpa using K9 q hd (by intro z;cases z)) q⟩⟩
theorem a2m{H H1 H2:Hp}{a:Addr}(s:Same H H1)(ha:H a=none)(o:Off [a] H1 H2):Same H H2:=λb u e=>o b u (by simpa using A6 e ha) (s b u e)
structure NxPre(H:Hp)(a c f l:Addr)(us:List V)(rss:LLI)(cs:List (Option Int))(fs:List V)(F:LLI)(ls:List V)(L:LLI):Prop where
 ha:H a=some (.tup us)
 hI:Its H us rss
 hc:H c=some (.tup (cs.map cV))
 hf:H f=some (.lst fs)
 hF:Its H fs F
 hl:H l=some (.lst ls)
 hL:Its H ls L
 us1:us.length<=1000
 n1:1<=cs.length
 n2:cs.length<=100
 hR:Rs cs.length rss
 fw:∀v∈F,v.length=cs.length
 lw:∀v∈L,v.length=cs.length/\Sm v
 big:L.length*cs.length+100<=100000
section
variable {P:Program}{w:World}{K:PySem.W.Frag}{mg:Str->Option Value}{base:Heap}
inductive IspNext(vs:List V)(H:Hp)(Q:VK)(E:XK):Prop
 |mk (a c f l:Addr) (r:V) (us:List V) (rss:LLI) (cs:List (Option Int)) (fs:List V) (F:LLI) (ls:List V) (L:LLI) (_:vs=[.ref a,.ref c,.ref f,.ref l,r]) (_:NxPre H a c f l us rss cs fs F ls L) (_:(r=.non∨∃m:Int,r=.int m/\0<=m)) (_:∀p zs tss H',Same H H'->H p=none->H' p=some (.lst zs)->Its H' zs tss->C9 tss->tss.Nodup->(∀v∈tss,∃u∈L,a0H rss cs F u v)->((∀u∈L,∀v,a0H rss cs F u v->v∈tss)∨∃m:Int,r=.int m/\m<tss.length)->tss.length<=L.length*cs.length->(∀m:Int,r=.int m->(tss.length:Int)<=m+cs.length)->Q (.ref p) H'):IspNext  vs H Q E
def b0u:Sp:=λvs H Q E=>IspNext  vs H Q E
theorem sc_next_level:FnScope ["rows","caps","found","level","room","met","one","j","more"] ["rows","caps","found","level","room"] (A1 L9):=⟨rfl,rfl,rfl,by decide +kernel,rfl,by decide +kernel,by decide +kernel⟩
theorem a3i(F':FunAt K mg "next_level" L9 ["rows","caps","found","level","room"])(T:Tx mg)(I:Ok P w K mg base "steps" 4 ["rows","caps","one"] a4j)(n:Ok P w K mg base "is_barred" 2 ["found","one","j"] a5u):Ok P w K mg base "next_level" 5 ["rows","caps","found","level","room"] b0u:=by
 refine F'.okJ sc_next_level (λvs H Q E h=>?_) (λd1 f A outer s H vs Q E hr h=>?_)
 .obtain⟨a,c,f,l,r,us,rss,cs,fs,F,ls,L,rfl,_⟩:=h;rfl
 .obtain⟨a,c,f,l,r,us,rss,cs,fs,F,ls,L,rfl,N,hroom,k⟩:=h;have O:=hr.u60;have hz:(100000:Nat)<=sizeLine:=by rw[sizeLine_eq];decide
  have c3:=N.big;refine⟨_,(A3 (B2 (i:=5) sc_next_level.nd rfl (Or.inl rfl) b4c)
 (A3 (N1 (E6 K (jv 3)) (A8 (i:=6) sc_next_level.nd rfl (Or.inl rfl))
 (A3 (N1 (E6 K (A7 I (hr.mono (by omega)) rfl (jaC (jv 0) (jaC (jv 1) (jaC (jv 6) jaN))))) (T3 K 2 (B4 (A8 (i:=7) sc_next_level.nd rfl (Or.inl rfl)) (B4 (A8 (i:=8) sc_next_level.nd rfl (Or.inl rfl)) M6)))
 (A4 (E8 (a4K (a2J (a9v O (jv 8) (jv 5) (by with_unfolding_all rfl)) (a0x (V8 (E2 K (A7 n (hr.mono (by omega)) rfl (jaC (jv 2) (jaC (jv 8) (jaC (jv 7) jaN)))))))))
 (A4 (b3X O (jv 5) (jv 8) N3))
 C8)))
 (A4 (E8 (a4K (a2J (a8i (jv 4) a2L) (a0x (b7v (b4b rfl T.b_len (jaC (jv 5) jaN)) (jv 4)))))
 (A4 b1J)
 C8))))
 (A4 (B0 (b1O rfl T.b_sorted (jaC (jv 5) jaN)))))),?_⟩
  intro d hd;dsimp only[A9];have s0:=(Same.refl H).upd (o:=.dT []) hd;have e0:upd H d (.dT []) d=some (.dT []):=A0;generalize upd H d (.dT [])=H0 at s0 e0;have fin:∀(kvs:List (List Key×V)) (g:LLI) (σ:L2.St) (H':Hp),σ[5]?=some (some (.ref d))->Same H H'->H' d=some (.dT kvs)->kvs.map (·.1)=IK g->g.Nodup->(∀v∈g,∃u∈L,a0H rss cs F u v)->((∀u∈L,∀v,a0H rss cs F u v->v∈g)∨∃m:Int,r=.int m/\m<g.length)->g.length<=L.length*cs.length->(∀m:Int,r=.int m->(g.length:Int)<=m+cs.length) ->
    a6z (tCB a6M (U4 (L8 5) R9)) {nx:=λx H'=>Q V.non H',rt:=Q} σ H':=by
   intro kvs g σ H' hσ s' S B C h1 h2 W M;refine⟨_,hσ,d,kvs,g,rfl,S,B,λv y=>?_,λp zs tss hp hI D b4=>?_⟩
   .obtain⟨u,O,j,_,rfl,_⟩:=h1 v y;rw[E4,(N.lw u O).1];exact N.n1
   refine k p zs tss _ (s'.upd hp) (s'.free hp) A0 (hI.same ((Same.refl H').upd hp)) b4 (D.symm.nodup C) (λv y=>h1 v (D.mem_iff.mp y)) ?_ (by rw[D.length_eq];exact W) λm e=>by rw[D.length_eq];exact M m e
   rcases h2 with h2|⟨m,e,h2⟩
   .exact .inl λu O v y=>D.mem_iff.mpr (h2 u O v y)
   .exact .inr ⟨m,e,by rw[D.length_eq];exact h2⟩
  refine⟨_,rfl,l,rfl,⟨_,SqL.of (s0 _ _ N.hl)⟩,?_⟩;refine N4 (K:=K) (a:=l) (xs:=ls) (λi σ H'=>Ex5 λo6 Y U kvs g=>An9 (σ=[some (.ref a),some (.ref c),some (.ref f),some (.ref l),some r,some (.ref d),o6,Y,U]) (Same H H') (H' d=some (.dT kvs)) (kvs.map (·.1)=IK g) (g.Nodup) ((∀v∈g,∃u∈L,a0H rss cs F u v)) ((∀u∈L.take i,∀v,a0H rss cs F u v->v∈g)) (g.length<=i*cs.length) (∀m:Int,r=.int m->(g.length:Int)<=m))
   ⟨none,none,none,[],[],rfl,s0,e0,rfl,List.nodup_nil,(λ_ z=>nomatch z),(λ_ z=>by simp at z),by simp,λm e=>?_⟩ (λi σ H' _ h=>by obtain⟨_,_,_,_,_,_,s',_⟩:=h;exact SqL.of (s' _ _ N.hl)) ?_ ?_
  .rcases hroom with e'|⟨m',e',hm'⟩
   .rw[e']at e;cases e
   .rw[e']at e;cases e;simpa using hm'
  .rintro i x σ H' hx ⟨o6,Y,U,kvs,g,rfl,s',S,B,C,h1,h2,W,M⟩;obtain⟨ys,a6,a8,b8⟩:=N.hL.mem hx;obtain⟨yw,b2⟩:=N.lw ys a6;have b5:i<L.length:=(List.getElem?_eq_some_iff.mp a8).1;have c9:(i+1)*cs.length<=L.length*cs.length:=Nat.mul_le_mul_right _ b5;have c4:(i+1)*cs.length=i*cs.length+cs.length:=by rw[Nat.add_mul,Nat.one_mul]
   dsimp only[A9];have c0:Rs ys.length rss:=by rw[yw];exact N.hR
   refine⟨_,rfl,_,rfl,_,rfl,a,c,x,us,rss,cs,ys,rfl,s' _ _ N.ha,N.hI.same s',s' _ _ N.hc,b8.same s',N.us1,by rw[yw];exact N.n2,yw.symm,c0,b2,λp1 ps H1 s1 a1 X=>?_⟩;have G:=s1 _ _ S;have Z:=s'.trans s1;refine⟨p1,rfl,⟨_,SqL.of a1⟩,?_⟩;have c1:∀j∈StP rss cs ys,j<ys.length:=λj hj=>List.mem_range.mp (List.mem_filter.mp (List.mem_filter.mp hj).1).1;have c8:(StP rss cs ys).length<=cs.length:=by rw[<-yw];exact Nat.le_trans (List.length_filter_le _ _) (Nat.le_trans (List.length_filter_le _ _) (by simp))
   have b6:d≠p1:=K9 G a1 (by intro z;cases z);refine N4 (K:=K) (a:=p1) (xs:=ps) (λi2 σ H2=>Ex4 λY U kvs g=>An10 (σ=[some (.ref a),some (.ref c),some (.ref f),some (.ref l),some r,some (.ref d),some x,Y,U]) (Off [d] H1 H2) (H2 d=some (.dT kvs)) (kvs.map (·.1)=IK g) (g.Nodup) ((∀v∈g,∃u∈L,a0H rss cs F u v)) ((∀u∈L.take i,∀v,a0H rss cs F u v->v∈g)) ((∀j∈(StP rss cs ys).take i2,Bar F (bump ys j) j=false->bump ys j∈g)) (g.length<=i*cs.length+i2) (∀m:Int,r=.int m->(g.length:Int)<=m+i2))
    ⟨Y,U,kvs,g,rfl,Off.refl _ _,G,B,C,h1,h2,(λ_ z=>by simp at z),W,λm e=>by have:=M m e;omega⟩ (λi2 σ H2 _ h=>by obtain⟨_,_,_,_,_,o2,_⟩:=h;exact SqL.of (o2 _ _ (by simpa using b6.symm) a1)) ?_ ?_
   .rintro i2 q σ H2 hq ⟨Y,U,kvs,g,rfl,off2,hd2,B,C,h1,h2,h5,W,M⟩;obtain⟨j,b,v,ej,rfl,hb,y⟩:=X.2 i2 q hq;obtain⟨va,rfl,hva⟩:=y;have b0:=List.mem_of_getElem? ej;have hj:=c1 j b0;have b9:=off2 _ _ (by simpa using K9 hb G (by intro z;cases z)) hb;have R:=off2 _ _ (by simpa using K9 hva G (by intro z;cases z)) hva;have a9:=Z _ _ N.hf;have c2:=off2 _ _ (by simpa using K9 a9 G (by intro z;cases z)) a9;have b7:=b4f (N.hF.same Z) G off2;have d0:i2<(StP rss cs ys).length:=(List.getElem?_eq_some_iff.mp ej).1;have b3:kvs.length=g.length:=by
     have:=congrArg List.length B;simpa[IK]using this
    have a0:∀J:LLI,(∀v∈g,v∈J)->(Bar F (bump ys j) j=false->bump ys j∈J)->∀j'∈(StP rss cs ys).take (i2+1),Bar F (bump ys j') j'=false->bump ys j'∈J:=λJ a2 b1 j' a5 a3=>by
     rw[List.take_add_one,ej]at a5;rcases List.mem_append.mp a5 with z|z
     .exact a2 _ (h5 j' z a3)
     .have:j'=j:=by simpa using z
      subst this;exact b1 a3
    refine⟨b,[.int j,.ref va],rfl,SqT.of b9,rfl,.int j,[.ref va],rfl,.ref va,[],rfl,rfl,?_⟩;refine⟨_,rfl,_,rfl,d,_,rfl,DGet.t hd2 (by rw[a7c];exact R),_,rfl,?_⟩;rw[a5X B];by_cases hm:bump ys j∈g
    .rw[decide_eq_true hm];refine D6 (D6 ?_);exact⟨_,_,kvs,g,rfl,off2,hd2,B,C,h1,h2,a0 g (λ_ z=>z) (λ_=>hm),by omega,λm e=>by have:=M m e;omega⟩
    .rw[decide_eq_false hm];refine F0 ⟨_,rfl,_,rfl,_,rfl,f,.ref va,fs,F,bump ys j,j,rfl,c2,b7,⟨va,rfl,R⟩,by rw[E4];exact hj,by rw[E4,yw];have:=N.n2;omega,λv y=>by rw[E4,yw];exact N.fw v y,λH3 s3=>⟨_,rfl,?_⟩⟩;have a7:=s3 _ _ hd2;cases e:Bar F (bump ys j) j with
     |true =>
      refine D6 ?_;exact⟨_,_,kvs,g,rfl,off2.trans s3.off,a7,B,C,h1,h2,a0 g (λ_ z=>z) (λz=>by rw[e]at z;cases z),by omega,λm e=>by have:=M m e;omega⟩
     |false =>
      refine F0 ?_;refine⟨_,rfl,_,rfl,d,_,rfl,DPut.t a7 (by rw[a7c];exact s3 _ _ R) (by omega),?_⟩;rw[a5I _ ((a2H B).mpr hm)];refine⟨_,_,_,g++[bump ys j],rfl,(off2.trans s3.off).set (by simp),A0,by rw[List.map_append,B];simp[IK],a8e C hm,λv y=>?_,λu O v y=>List.mem_append_left _ (h2 u O v y),a0 _ (λv y=>List.mem_append_left _ y) (λ_=>by simp),by rw[List.length_append];simp;omega,λm e=>by have:=M m e;rw[List.length_append];simp;omega⟩;rcases List.mem_append.mp y with z|z
      .exact h1 v z
      .rw[List.mem_singleton.mp z];exact⟨ys,a6,j,b0,rfl,e⟩
   .rintro σ H2 ⟨Y,U,kvs,g,rfl,off2,hd2,B,C,h1,h2,h5,W,M⟩;rw[X.1,List.take_length]at h5;have b3:kvs.length=g.length:=by
     have:=congrArg List.length B;simpa[IK]using this
    have c6:=X.1;have s2:Same H H2:=a2m Z hd off2;have a4:∀u∈L.take (i+1),∀v,a0H rss cs F u v->v∈g:=λu O v y=>by
     rw[List.take_add_one,a8]at O;rcases List.mem_append.mp O with z|z
     .exact h2 u z v y
     .have:u=ys:=by simpa using z
      subst this;obtain⟨j,hj,rfl,hb⟩:=y;exact h5 j hj hb
    rcases hroom with rfl|⟨m,rfl,c7⟩
    .refine⟨_,rfl,rfl,_,rfl,D6 (D6 ?_)⟩;exact⟨_,_,_,kvs,g,rfl,s2,hd2,B,C,h1,a4,by omega,λm e=>by cases e⟩
    .refine⟨_,rfl,rfl,_,rfl,F0 ?_⟩;refine⟨_,rfl,d,kvs,rfl,hd2,_,rfl,_,_,rfl,rfl,_,rfl,a3n (λe=>?_) (λe=>?_)⟩
     .have e':m<(kvs.length:Int):=of_decide_eq_true e;have c5:=M m rfl;exact fin kvs g _ H2 rfl s2 hd2 B C h1 (.inr ⟨m,rfl,by omega⟩) (by omega) λm' e2=>by cases e2;omega
     .have e':¬m<(kvs.length:Int):=λz=>e (decide_eq_true z);exact⟨_,_,_,kvs,g,rfl,s2,hd2,B,C,h1,a4,by omega,λm' e2=>by cases e2;omega⟩
  .rintro σ H' ⟨o6,Y,U,kvs,g,rfl,s',S,B,C,h1,h2,W,M⟩;rw[N.hL.1,List.take_length]at h2;exact fin kvs g _ H' rfl s' S B C h1 (.inl h2) (by rw[N.hL.1]at W;exact W) λm e=>by have:=M m e;omega
end
noncomputable def ffl(ra ca:Addr)(b:Bool)(ah af aw:Addr):List (Str×V):=[("rows",.ref ra),("caps",.ref ca),("begun",.bl b),("here",.ref ah),("found",.ref af),("walked",.ref aw)]
section
variable (ra ca ah ah' af aw:Addr) (b b':Bool)
theorem a6f:(ffl ra ca b ah af aw).lookup ("rows" : Str)=some (.ref ra):=by with_unfolding_all rfl
theorem a6g:(ffl ra ca b ah af aw).lookup ("caps" : Str)=some (.ref ca):=by with_unfolding_all rfl
theorem a3R:(ffl ra ca b ah af aw).lookup ("begun" : Str)=some (.bl b):=by with_unfolding_all rfl
theorem W5:(ffl ra ca b ah af aw).lookup ("here" : Str)=some (.ref ah):=by with_unfolding_all rfl
theorem a1c:(ffl ra ca b ah af aw).lookup ("found" : Str)=some (.ref af):=by with_unfolding_all rfl
theorem a2V:(ffl ra ca b ah af aw).lookup ("walked" : Str)=some (.ref aw):=by with_unfolding_all rfl
theorem a5H:I0 "here" (.ref ah') (ffl ra ca b ah af aw)=ffl ra ca b ah' af aw:=by with_unfolding_all rfl
theorem a8Y:I0 "begun" (.bl b') (ffl ra ca b ah af aw)=ffl ra ca b' ah af aw:=by with_unfolding_all rfl
theorem a5G:I0 "walked" (.ref aw) (I0 "found" (.ref af) (I0 "here" (.ref ah) (I0 "begun" (.bl b) (I0 "caps" (.ref ca) (I0 "rows" (.ref ra) [])))))=ffl ra ca b ah af aw:=by with_unfolding_all rfl
theorem b2e:(ffl ra ca b ah af aw).lookup ("told" : Str)=none:=by with_unfolding_all rfl
theorem a9D:(ffl ra ca b ah af aw).lookup ("paper" : Str)=none:=by with_unfolding_all rfl
theorem a9E:(ffl ra ca b ah af aw).lookup ("ended" : Str)=none:=by with_unfolding_all rfl
theorem a1D:(ffl ra ca b ah af aw).lookup ("step_within" : Str)=none:=by with_unfolding_all rfl
end
structure FiTx(K:PySem.W.Frag)(C:Addr):Prop where
 cl:Cls K C
 n1:NoAttr K C "rows"
 n2:NoAttr K C "caps"
 n3:NoAttr K C "begun"
 n4:NoAttr K C "here"
 n5:NoAttr K C "found"
 n6:NoAttr K C "walked"
structure FAt(C:Addr)(H:Hp)(p ra ca af aw:Addr)(b:Bool)(L F W:LLI):Prop where
 ob:∃dx ah hs,H p=some (.ins C dx (ffl ra ca b ah af aw))/\H ah=some (.lst hs)/\Its H hs L/\ah≠af/\ah≠aw
 hf:∃fs,H af=some (.lst fs)/\Its H fs F
 hw:∃ws,H aw=some (.lst ws)/\Its H ws W
 ne:af≠aw
theorem FAt.same{C:Addr}{H H':Hp}{p ra ca af aw:Addr}{b:Bool}{L F W:LLI}(h:FAt C H p ra ca af aw b L F W)(s:Same H H'):FAt C H' p ra ca af aw b L F W:=by
 obtain⟨⟨dx,ah,hs,h1,h2,a,g,c⟩,⟨fs,f1,f2⟩,⟨e,f,d⟩,ne⟩:=h;exact⟨⟨dx,ah,hs,s _ _ h1,s _ _ h2,a.same s,g,c⟩,⟨fs,s _ _ f1,f2.same s⟩,⟨e,s _ _ f,d.same s⟩,ne⟩
structure SyAt(H:Hp)(a c:Addr)(rss:LLI)(cs:List (Option Int)):Prop where
 ex:∃us,H a=some (.tup us)/\Its H us rss/\us.length<=1000
 hc:H c=some (.tup (cs.map cV))
 n1:1<=cs.length
 n2:cs.length<=100
 hR:Rs cs.length rss
theorem SyAt.same{H H':Hp}{a c:Addr}{rss:LLI}{cs:List (Option Int)}(h:SyAt H a c rss cs)(s:Same H H'):SyAt H' a c rss cs:=by
 obtain⟨⟨us,h1,h2,b⟩,hc,n1,n2,hR⟩:=h;exact⟨⟨us,s _ _ h1,h2.same s,b⟩,s _ _ hc,n1,n2,hR⟩
structure StR(rss:LLI)(cs:List (Option Int))(b:Bool)(L F:LLI)(r:V)(L':LLI):Prop where
 ri:C9 L'
 nd:L'.Nodup
 fst:b=false->∀v,v∈L'↔v∈J8 cs
 snd:b=true->∀v∈L',∃u∈L,a0H rss cs F u v
 all:b=true->(∀u∈L,∀v,a0H rss cs F u v->v∈L')∨∃m:Int,r=.int m/\m<L'.length
 len:L'.length<=cs.length+L.length*cs.length
 few:∀m:Int,r=.int m->(L'.length:Int)<=m+cs.length
theorem Q5(n j i:Nat)(hi:i<n):(K6 n j).getD i 0=if i=j then 1 else 0:=by
 unfold K6;simp[List.getD_eq_getElem?_getD,hi]
theorem J4(n j:Nat):(K6 n j).length=n:=by simp[K6]
theorem a9C(cs:List (Option Int)):(J8 cs).Nodup:=by
 unfold J8;refine List.Nodup.sublist (List.filter_sublist) ?_;unfold List.Nodup;rw[List.pairwise_map];refine(List.nodup_range (n:=cs.length)).imp_of_mem λ{i j} hi b a e=>?_;have h1:(K6 cs.length i).getD i 0=(K6 cs.length j).getD i 0:=congrArg (λl:List Int=>l.getD i 0) e;rw[Q5 _ _ _ (List.mem_range.mp hi),Q5 _ _ _ (List.mem_range.mp hi),if_pos rfl,if_neg a]at h1;omega
theorem lp{f:Str}{v:V}{fs:List (Str×V)}{k:Nat}(h:fs.length<=k):(I0 f v fs).length<=k+1:=by
 refine Nat.le_trans ?_ (Nat.succ_le_succ h);clear h;induction fs with
 |nil=>exact Nat.le_refl _
 |cons p r ih =>
  obtain⟨g,x⟩:=p;show(if g=f then(g,v)::r else(g,x)::I0 f v r).length<=_;split
  .simp
  .simpa using ih
section
variable {P:Program}{w:World}{K:PySem.W.Frag}{mg:Str->Option Value}{base:Heap}{C:Addr}
inductive IspFInit(C:Addr)(vs:List V)(H:Hp)(Q:VK)(E:XK):Prop
 |mk (p dx ra ca:Addr) (_:vs=[.ref p,.ref ra,.ref ca]) (_:H p=some (.ins C dx [])) (_:∀(af aw:Addr) (H':Hp),H af=none->H aw=none->FAt C H' p ra ca af aw false [] [] []->(∃dx ah,H' p=some (.ins C dx (ffl ra ca false ah af aw))/\H ah=none)->(∀b o,H b=some o->b≠p->H' b=some o)->Q .non H'):IspFInit C vs H Q E
def a7T(C:Addr):Sp:=λvs H Q E=>IspFInit C vs H Q E
theorem a0d:FnScope ["self","rows","caps"] ["self","rows","caps"] (A1 D7):=⟨rfl,rfl,rfl,by decide +kernel,rfl,by decide +kernel,by decide +kernel⟩
theorem b1u(D:MethAt K C "__init__" "Finder.__init__" D7 ["self","rows","caps"])(U:FiTx K C):MethOk P w K mg base C "__init__" 1 ["self","rows","caps"] (a7T C):=by
 refine D.fnJ a0d (λvs H Q E h=>?_) (λG f A outer s H vs Q E F h=>?_)
 .obtain⟨p,dx,ra,ca,rfl,_⟩:=h;rfl
 .obtain⟨p,dx,ra,ca,rfl,hp,k⟩:=h;refine⟨_,(A3 (S9 K (jv 0) (jv 1))
 (A3 (S9 K (jv 0) (jv 2))
 (A3 (S9 K (jv 0) N3)
 (A3 (S9 K (jv 0) (J1 jaN))
 (A3 (S9 K (jv 0) (J1 jaN))
 (A4 (S9 K (jv 0) (J1 jaN)))))))),?_⟩
  have x:([]:List (Str×V)).length<=0:=Nat.le_refl _;refine⟨_,rfl,_,rfl,p,C,dx,_,rfl,hp,U.cl,U.n1,Nat.lt_of_le_of_lt x (by decide),?_⟩;refine⟨_,rfl,_,rfl,p,C,dx,_,rfl,A0,U.cl,U.n2,Nat.lt_of_le_of_lt (lp x) (by decide),?_⟩;rw[a4f];refine⟨_,rfl,p,C,dx,_,rfl,A0,U.cl,U.n3,Nat.lt_of_le_of_lt (lp (lp x)) (by decide),?_⟩;rw[a4f];generalize B:I0 "begun" (V.bl false) (I0 "caps" (.ref ca) (I0 "rows" (.ref ra) []))=q;have l3:q.length<=3:=by rw[<-B];exact lp (lp (lp x))
  have k1:∀b o,H b=some o->b≠p->upd H p (.ins C dx q) b=some o:=λb o e hb=>by rw[A2 hb];exact e
  have y:upd H p (.ins C dx q) p=some (.ins C dx q):=A0;have n1:∀b,upd H p (.ins C dx q) b=none->H b=none:=λb e=>by
   by_cases hb:b=p
   .subst hb;rw[A0]at e;cases e
   .rwa[A2 hb]at e
  generalize upd H p (.ins C dx q)=H1 at k1 y n1;refine⟨Nat.zero_le _,λah m=>?_⟩;have t:p≠ah:=A6 y m;refine⟨_,rfl,p,C,dx,_,rfl,by rw[A2 t];exact y,U.cl,U.n4,by omega,?_⟩;refine⟨Nat.zero_le _,λaf i=>?_⟩;have u:p≠af:=λz=>by subst z;rw[A0]at i;cases i
  have c:upd H1 ah (.lst []) af=none:=by rwa[A2 u.symm]at i
  have j:ah≠af:=A6 (o:=.lst []) A0 c;have d:H1 af=none:=by rwa[A2 j.symm]at c
  refine⟨_,rfl,p,C,dx,_,rfl,by rw[A2 u];exact A0,U.cl,U.n5,by have:=lp (f:="here") (v:=.ref ah) l3;omega,?_⟩;refine⟨Nat.zero_le _,λaw n=>?_⟩;have r:p≠aw:=λz=>by subst z;rw[A0]at n;cases n
  have a:=n;rw[A2 r.symm]at a;have g:af≠aw:=A6 (o:=.lst []) A0 a;rw[A2 g.symm,A2 r.symm]at a;have l:ah≠aw:=A6 (o:=.lst []) A0 a;rw[A2 l.symm]at a;refine⟨_,rfl,p,C,dx,_,rfl,by rw[A2 r];exact A0,U.cl,U.n6,by have:=lp (f:="found") (v:=.ref af) (lp (f:="here") (v:=.ref ah) l3);omega,?_⟩;refine k af aw _ (n1 _ d) (n1 _ a) ⟨⟨dx,ah,[],?_,?_,.nil,j,l⟩,⟨[],?_,.nil⟩,⟨[],?_,.nil⟩,g⟩ ⟨dx,ah,by rw[A0,<-B,<-a5G],n1 _ m⟩ λb o e hb=>?_
  .rw[A0,<-B,<-a5G]
  .rw[A2 t.symm,A2 l,A2 t.symm,A2 j,A2 t.symm,A0]
  .rw[A2 u.symm,A2 g,A2 u.symm,A0]
  .rw[A2 r.symm,A0]
  .have e2:=k1 b o e hb;rw[A2 hb,A2 (A6 e2 a),A2 hb,A2 (A6 e2 d),A2 hb,A2 (A6 e2 m)];exact e2
theorem a4O{H:Hp}:∀{vs c:List V}{rss tss:LLI},Its H vs rss->Its H c tss->Its H (vs++c) (rss++tss):=by
 intro vs c rss tss h g;refine⟨by rw[List.length_append,List.length_append,h.1,g.1],λi v e=>?_⟩;rcases Nat.lt_or_ge i vs.length with hi|hi
 .rw[List.getElem?_append_left hi]at e;obtain⟨r,a,b⟩:=h.2 i v e;exact⟨r,by rw[List.getElem?_append_left (by rw[<-h.1];exact hi)];exact a,b⟩
 .rw[List.getElem?_append_right hi]at e;obtain⟨r,a,b⟩:=g.2 _ v e;exact⟨r,by rw[List.getElem?_append_right (by rw[<-h.1];exact hi),<-h.1];exact a,b⟩
theorem Y6{H:Hp}{vs:List V}{rss:LLI}{c:Addr}{o o':HO}(h:Its H vs rss)(hc:H c=some o)(b:∀xs,HO.tup xs≠o):Its (upd H c o') vs rss :=
 ⟨h.1,λi v e=>let ⟨r,e1,a,e2,q⟩:=h.2 i v e;⟨r,e1,a,e2,by rw[A2 (K9 q hc (b _))];exact q⟩⟩
theorem a2N{H H':Hp}{vs:List V}{rss:LLI}{c:Addr}{o:HO}(h:Its H vs rss)(hc:H c=some o)(b:∀xs,HO.tup xs≠o)(off:Off [c] H H'):Its H' vs rss :=
 ⟨h.1,λi v e=>let ⟨r,e1,a,e2,q⟩:=h.2 i v e;⟨r,e1,a,e2,off _ _ (by simpa using K9 q hc (b _)) q⟩⟩
theorem b2L{H H':Hp}{a c:Addr}{rss:LLI}{cs:List (Option Int)}{b:Addr}{o:HO}(h:SyAt H a c rss cs)(hb:H b=some o)(d:∀xs,HO.tup xs≠o)(off:Off [b] H H'):SyAt H' a c rss cs:=by
 obtain⟨⟨us,h1,h2,e⟩,hc,n1,n2,hR⟩:=h;exact⟨⟨us,off _ _ (by simpa using K9 h1 hb (d _)) h1,a2N h2 hb d off,e⟩,off _ _ (by simpa using K9 hc hb (d _)) hc,n1,n2,hR⟩
theorem b2O{u:List Int}{B:Int}{j:Nat}(h:∀x∈u,0<=x/\x<=B)(b:B<=2 ^ 60):∀x∈bump u j,0<=x/\x<=2 ^ 60+1:=by
 intro x a;unfold bump at a;rcases List.mem_or_eq_of_mem_set a with z|z
 .have:=h x z;omega
 .by_cases hj:j<u.length
  .have:=h _ (List.getElem_mem (h:=hj));rw[List.getD_eq_getElem?_getD,List.getElem?_eq_getElem hj]at z;simp at z;omega
  .rw[List.getD_eq_getElem?_getD,List.getElem?_eq_none (by omega)]at z;simp at z;omega
inductive IspStepW(C:Addr)(vs:List V)(H:Hp)(Q:VK)(E:XK):Prop
 |mk (p ra ca af aw:Addr) (b:Bool) (L F W rss:LLI) (cs:List (Option Int)) (r:V) (B:Int) (_:vs=[.ref p,r]) (_:FAt C H p ra ca af aw b L F W) (_:SyAt H ra ca rss cs) (_:(r=.non∨∃m:Int,r=.int m/\0<=m)) (_:(∀v∈L,v.length=cs.length/\∀x∈v,0<=x/\x<=B)) (_:B<=2 ^ 60) (_:(∀v∈F,v.length=cs.length)) (_:L.length*cs.length+100<=100000) (_:F.length<=100000) (_:W.length<=100000) (_:∀L' H',StR rss cs b L F r L'->FAt C H' p ra ca af aw true L' (F++L'.filter λv=>Ans rss v) (W++L')->(∃dx ah,H' p=some (.ins C dx (ffl ra ca true ah af aw))/\H ah=none)->Off [p,af,aw] H H'->Q (.int L'.length) H'):IspStepW C vs H Q E
def a4k(C:Addr):Sp:=λvs H Q E=>IspStepW C vs H Q E
theorem b0K{σ:L2.St}{i j:Nat}{C p ra ca af aw:Addr}{b:Bool}{L F W rss:LLI}{cs:List (Option Int)}{r:V}{B:Int}{H:Hp}{Q:VK}(hi:σ[i]?=some (some (.ref p)))(e:σ[j]?=some (some r))(D:FAt C H p ra ca af aw b L F W)(Y:SyAt H ra ca rss cs)(h1:r=.non∨∃m:Int,r=.int m/\0<=m)(h2:∀v∈L,v.length=cs.length/\∀x∈v,0<=x/\x<=B)(d:B<=2 ^ 60)(h:∀v∈F,v.length=cs.length)(f:L.length*cs.length+100<=100000)(a:F.length<=100000)(g:W.length<=100000)
  (k:∀L' H',StR rss cs b L F r L'->FAt C H' p ra ca af aw true L' (F++L'.filter λv=>Ans rss v) (W++L')->(∃dx ah,H' p=some (.ins C dx (ffl ra ca true ah af aw))/\H ah=none)->Off [p,af,aw] H H'->Q (.int L'.length) H'):a1m C "step_within" (a4k C) [] E0 (L8 i) (U4 (L8 j) R9) σ H Q:=by
 obtain⟨⟨dx,ah,hs,c,_⟩,_,_,_⟩:=id D;exact⟨_,hi,p,dx,_,rfl,c,a1D _ _ _ _ _ _,_,e,p,ra,ca,af,aw,b,L,F,W,rss,cs,r,B,rfl,D,Y,h1,h2,d,h,f,a,g,k⟩
theorem U9:FnScope ["self","room"] ["self","room"] (A1 C2):=⟨rfl,rfl,rfl,by decide +kernel,rfl,by decide +kernel,by decide +kernel⟩
theorem b1o(FM:MethAt K C "step_within" "Finder.step_within" C2 ["self","room"])(U:FiTx K C)(T:Tx mg)(d:Ok P w K mg base "next_level" 5 ["rows","caps","found","level","room"] b0u)(c:Ok P w K mg base "first_steps" 2 ["caps"] a4n)(n:Ok P w K mg base "is_answer" 3 ["rows","one"] a1J) :
  MethOk P w K mg base C "step_within" 6 ["self","room"] (a4k C):=by
 refine FM.fnJ U9 (λvs H Q E h=>?_) (λc8 f A outer s H vs Q E hr h=>?_)
 .obtain⟨p,ra,ca,af,aw,b,L,F,W,rss,cs,r,B,rfl,_⟩:=h;rfl
 .obtain⟨p,ra,ca,af,aw,b,L,F,W,rss,cs,r,B,rfl,D,Y,hroom,hL,hB,hF,hbig,hF1,hW1,k⟩:=h;have hz:(300000:Nat)<=sizeLine:=by rw[sizeLine_eq];decide
  obtain⟨⟨dx,ah,hs,h1,h2,h3,h4,h5⟩,⟨fs,f1,f2⟩,⟨ws,w1,w2⟩,ne⟩:=id D;have b2:p≠af:=K9 h1 f1 (by intro z;cases z);have b4:p≠aw:=K9 h1 w1 (by intro z;cases z);refine⟨_,(A3 (E8 (E2 K (L5 K (jv 0)))
 (A4 (S9 K (jv 0) (A7 d (hr.mono (by omega)) rfl (jaC (L5 K (jv 0)) (jaC (L5 K (jv 0)) (jaC (L5 K (jv 0)) (jaC (L5 K (jv 0)) (jaC (jv 1) jaN))))))))
 (A3 (S9 K (jv 0) (b4a K rfl T.b_list (jaC (A7 c (hr.mono (by omega)) rfl (jaC (L5 K (jv 0)) jaN)) jaN)))
 (A4 (S9 K (jv 0) N3))))
 (A3 (T0 (a3M K (L5 K (jv 0)) (jaC (C0 (N:=["one","self"]) (src:=[none,some 0]) (E6 K (L5 K (jv 0))) (by show B7 _ _=true;rfl) (by rfl) (by rfl)
 (λ_ _ _ _ _=>(A8 (i:=0) (show(["one","self"]:List Str).Nodup by decide +kernel) rfl (Or.inl rfl))) (λ_ _ _ _ _=>(W0 (E2 K (A7 n (hr.mono (by omega)) rfl (jaC (L5 K (jv 1)) (jaC (jv 0) jaN)))))) (λ_ _ _ _ _=>(jv 0))) jaN)))
 (A3 (T0 (a3M K (L5 K (jv 0)) (jaC (L5 K (jv 0)) jaN)))
 (A4 (B0 (L3 K rfl T.b_len (jaC (L5 K (jv 0)) jaN))))))),?_⟩
  refine X1 (λσ H'=>σ=[some (.ref p),some r]/\∃ah' a L',H' p=some (.ins C dx (ffl ra ca true ah' af aw))/\H' ah'=some (.lst a)/\Its H' a L'/\H ah'=none/\StR rss cs b L F r L'/\Off [p] H H'/\∀v∈L',v.length=cs.length/\Sm v) ?fin λfin=>?_
  case fin =>
   rintro σ H1 ⟨rfl,ah',a,L',p1,a1,i1,a0,R,g,c5⟩;have c3:=Y.n2;have a9:L'.length<=100000:=by have:=R.len;omega
   have a6:=g _ _ (by simpa using b2.symm) f1;have b7:=g _ _ (by simpa using b4.symm) w1;have b6:=a2N f2 h1 (λ_ z=>by cases z) g;have b9:=a2N w2 h1 (λ_ z=>by cases z) g;have Y1:=b2L Y h1 (λ_ z=>by cases z) g;have a8:ah'≠af:=(A6 f1 a0).symm;have b3:ah'≠aw:=(A6 w1 a0).symm;have c7:p≠ah':=A6 h1 a0;refine⟨_,rfl,p,C,dx,_,_,rfl,p1,U.cl,U.n5,a1c _ _ _ _ _ _,.inl ⟨rfl,_,SqL.of a6⟩,?_⟩;refine⟨_,rfl,p,C,dx,_,_,rfl,p1,U.cl,U.n4,W5 _ _ _ _ _ _,ah',rfl,⟨_,SqL.of a1⟩,?_⟩;refine a2C (caps:=[some (.ref p)]) (λv=>Ans rss v) (by rw[i1.1];omega) (λH2 s2=>SqL.of (s2 _ _ a1)) i1 rfl (λv r' H2 Q2 b8 X s2 q=>?_) λH2 p2 zs s2 b0 M=>?_
   .obtain⟨⟨us,u1,u2,u3⟩,_,_,_,hR⟩:=Y1.same s2;refine⟨_,rfl,p,C,dx,_,_,rfl,s2 _ _ p1,U.cl,U.n1,a6f _ _ _ _ _ _,_,rfl,ra,v,us,rss,r',rfl,u1,u2,X,u3,λr hr=>by rw[(hR r hr).1];omega,(c5 r' b8).2,λO t=>⟨_,rfl,q O t⟩⟩
   have c1:(L'.filter λv=>Ans rss v).length<=L'.length:=List.length_filter_le _ _;have t:=s2.upd (o:=.lst zs) b0;have c4:=(Same.refl H2).upd (o:=.lst zs) b0;have e3:upd H2 p2 (.lst zs) p2=some (.lst zs):=A0;have I:=M.same c4;generalize upd H2 p2 (.lst zs)=O at t e3 I;have f3:=t _ _ a6;refine⟨af,p2,fs,zs,rfl,rfl,f3,e3,by rw[f2.1,M.1];omega,?_⟩;have p4:upd O af (.lst (fs++zs)) p=some (.ins C dx (ffl ra ca true ah' af aw)):=by rw[A2 b2];exact t _ _ p1
   have w4:upd O af (.lst (fs++zs)) aw=some (.lst ws):=by rw[A2 ne.symm];exact t _ _ b7
   have a4:upd O af (.lst (fs++zs)) ah'=some (.lst a):=by rw[A2 a8];exact t _ _ a1
   refine⟨_,rfl,p,C,dx,_,_,rfl,p4,U.cl,U.n6,a2V _ _ _ _ _ _,.inl ⟨rfl,_,SqL.of w4⟩,?_⟩;refine⟨_,rfl,p,C,dx,_,_,rfl,p4,U.cl,U.n4,W5 _ _ _ _ _ _,aw,ah',ws,a,rfl,rfl,w4,a4,by rw[w2.1,i1.1];omega,?_⟩;have p5:upd (upd O af (.lst (fs++zs))) aw (.lst (ws++a)) p=some (.ins C dx (ffl ra ca true ah' af aw)):=by rw[A2 b4];exact p4
   have a5:upd (upd O af (.lst (fs++zs))) aw (.lst (ws++a)) ah'=some (.lst a):=by rw[A2 b3];exact a4
   refine⟨_,rfl,p,C,dx,_,_,rfl,p5,U.cl,U.n4,W5 _ _ _ _ _ _,ah',_,rfl,.inl (SqL.of a5),?_⟩;rw[i1.1];have G:∀{vs:List V}{rss:LLI},Its O vs rss->Its (upd (upd O af (.lst (fs++zs))) aw (.lst (ws++a))) vs rss:=λh=>Y6 (Y6 h f3 (λ_ z=>by cases z)) w4 (λ_ z=>by cases z);refine k L' _ R ⟨⟨dx,ah',a,p5,a5,G (i1.same t),a8,b3⟩,⟨fs++zs,by rw[A2 ne];exact A0,G (a4O (b6.same t) I)⟩,⟨ws++a,A0,G (a4O (b9.same t) (i1.same t))⟩,ne⟩ ⟨dx,ah',p5,a0⟩ λb o hb e=>?_;have a2:b≠p/\b≠af/\b≠aw:=by simpa using hb
   rw[A2 a2.2.2,A2 a2.2.1];exact t _ _ (g _ _ (by simpa using a2.1) e)
  refine⟨_,rfl,p,C,dx,_,_,rfl,h1,U.cl,U.n3,a3R _ _ _ _ _ _,b,rfl,?_⟩;obtain⟨us,u1,u2,u3⟩:=Y.ex;have c3:=Y.n2;cases b with
  |true =>
   refine F0 ?_;refine⟨_,rfl,p,C,dx,_,_,rfl,h1,U.cl,U.n1,a6f _ _ _ _ _ _,_,rfl,p,C,dx,_,_,rfl,h1,U.cl,U.n2,a6g _ _ _ _ _ _,_,rfl,p,C,dx,_,_,rfl,h1,U.cl,U.n5,a1c _ _ _ _ _ _,_,rfl,p,C,dx,_,_,rfl,h1,U.cl,U.n4,W5 _ _ _ _ _ _,_,rfl,?_⟩;refine⟨ra,ca,af,ah,r,us,rss,cs,fs,F,hs,L,rfl,⟨u1,u2,Y.hc,f1,f2,h2,h3,u3,Y.n1,Y.n2,Y.hR,hF,λv X=>⟨(hL v X).1,λx hx=>by have:=(hL v X).2 x hx;omega⟩,hbig⟩,hroom,λp9 zs tss H9 s9 y h9 c2 a3 c0 S b1 a9 b5=>?_⟩;have a7:=s9 _ _ h1;have Z:p≠p9:=A6 h1 y;refine⟨_,rfl,p,C,dx,_,rfl,a7,U.cl,U.n4,by show 6<1000;decide,?_⟩;rw[a5H];refine fin _ _ ⟨rfl,p9,zs,tss,A0,by rw[A2 Z.symm];exact h9,Y6 c2 a7 (λ_ z=>by cases z),y,⟨a3,c0,(λz=>by cases z),λ_=>S,λ_=>b1,by omega,b5⟩,s9.off.set (by simp),λv X=>?_⟩;obtain⟨u,hu,j,_,rfl,_⟩:=S v X;have:=b2O (j:=j) (hL u hu).2 hB;exact⟨by rw[E4];exact(hL u hu).1,λx hx=>by have:=this x hx;omega⟩
  |false =>
   refine D6 ?_;refine⟨_,rfl,p,C,dx,_,_,rfl,h1,U.cl,U.n2,a6g _ _ _ _ _ _,ca,cs,rfl,Y.hc,Y.n1,Y.n2,λq zs tss H2 s2 hq M J a3=>?_⟩;refine⟨q,zs,rfl,.inr (SqT.of hq),λl hl=>?_⟩;have p3:=Q3 (o:=.lst zs) (s2 _ _ h1) hl;have t:=s2.upd (o:=.lst zs) hl;have I:=M.same ((Same.refl H2).upd (o:=.lst zs) hl);have e3:upd H2 l (.lst zs) l=some (.lst zs):=A0;have y:=s2.free hl;generalize upd H2 l (.lst zs)=O at p3 t I e3;refine⟨_,rfl,p,C,dx,_,rfl,p3,U.cl,U.n4,by show 6<1000;decide,?_⟩;rw[a5H];refine⟨_,rfl,p,C,dx,_,rfl,A0,U.cl,U.n3,by show 6<1000;decide,?_⟩;rw[a4f,a8Y];have Z:p≠l:=A6 h1 y;have c1:(J8 cs).length<=cs.length:=Nat.le_trans (List.length_filter_le _ _) (by simp);have c6:=J.length_eq;refine fin _ _ ⟨rfl,l,zs,tss,A0,by rw[A2 Z.symm];exact e3,Y6 I p3 (λ_ z=>by cases z),y,⟨a3,J.symm.nodup (a9C cs),λ_ v=>J.mem_iff,(λz=>by cases z),(λz=>by cases z),by omega,λm e=>?_⟩,t.off.set (by simp),λv X=>?_⟩
   .rcases hroom with z|⟨m',z,hm'⟩
    .rw[z]at e;cases e
    .rw[z]at e;cases e;omega
   .obtain⟨j,_,rfl⟩:=List.mem_map.mp (List.mem_filter.mp (J.mem_iff.mp X)).1;refine⟨J4 _ _,λx hx=>?_⟩;unfold K6 at hx;obtain⟨i,_,rfl⟩:=List.mem_map.mp hx;split<;>omega
inductive IspEnded(C:Addr)(vs:List V)(H:Hp)(Q:VK)(E:XK):Prop
 |mk (p ra ca af aw:Addr) (b:Bool) (L F W:LLI) (_:vs=[.ref p]) (_:FAt C H p ra ca af aw b L F W) (_:Q (.bl (b && decide (L=[]))) H):IspEnded C vs H Q E
def a4o(C:Addr):Sp:=λvs H Q E=>IspEnded C vs H Q E
theorem b0M{σ:L2.St}{i:Nat}{C p ra ca af aw:Addr}{b:Bool}{L F W:LLI}{H:Hp}{Q:VK}(hi:σ[i]?=some (some (.ref p)))(D:FAt C H p ra ca af aw b L F W)(k:Q (.bl (b && decide (L=[]))) H):a1m C "ended" (a4o C) [] E0 (L8 i) R9 σ H Q:=by
 obtain⟨⟨dx,ah,hs,a,_⟩,_,_,_⟩:=id D;exact⟨_,hi,p,dx,_,rfl,a,a9E _ _ _ _ _ _,p,ra,ca,af,aw,b,L,F,W,rfl,D,k⟩
theorem a1y:FnScope ["self"] ["self"] (A1 G8):=⟨rfl,rfl,rfl,by decide +kernel,rfl,by decide +kernel,by decide +kernel⟩
theorem b1w(a:MethAt K C "ended" "Finder.ended" G8 ["self"])(U:FiTx K C)(T:Tx mg):MethOk P w K mg base C "ended" 1 ["self"] (a4o C):=by
 refine a.fnJ a1y (λvs H Q E h=>?_) (λn f A outer s H vs Q E d h=>?_)
 .obtain⟨p,ra,ca,af,aw,b,L,F,W,rfl,_⟩:=h;rfl
 .obtain⟨p,ra,ca,af,aw,b,L,F,W,rfl,D,k⟩:=h;obtain⟨⟨dx,ah,hs,h1,h2,c,m,g⟩,⟨fs,f1,f2⟩,⟨j,l,i⟩,ne⟩:=id D;refine⟨_,(A4 (B0 (a1u (L5 K (jv 0)) (a1t (a3L (L3 K rfl T.b_len (jaC (L5 K (jv 0)) jaN)) A5))))),?_⟩;refine⟨_,rfl,p,C,dx,_,_,rfl,h1,U.cl,U.n3,a3R _ _ _ _ _ _,?_⟩;refine⟨b,rfl,?_⟩;cases b with
  |false=>exact D6 k
  |true =>
   refine F0 ⟨_,rfl,p,C,dx,_,_,rfl,h1,U.cl,U.n4,W5 _ _ _ _ _ _,ah,_,rfl,.inl (SqL.of h2),rfl,?_⟩;have e:decide (V.int (hs.length:Int)=V.int 0)=decide (L=[]):=by
    rw[c.1];cases L with
    |nil=>simp
    |cons x L=>simp;omega
   rw[e];exact k
inductive IspTold(C:Addr)(vs:List V)(H:Hp)(Q:VK)(E:XK):Prop
 |mk (p ra ca af aw:Addr) (b:Bool) (L F W:LLI) (_:vs=[.ref p]) (_:FAt C H p ra ca af aw b L F W) (_:(∀v∈F,0<v.length)) (_:∀q zs tss H',Same H H'->H' q=some (.tup zs)->Its H' zs tss->tss.Perm F->C9 tss->Q (.ref q) H'):IspTold C vs H Q E
def a6A(C:Addr):Sp:=λvs H Q E=>IspTold C vs H Q E
theorem b3b{σ:L2.St}{i:Nat}{C p ra ca af aw:Addr}{b:Bool}{L F W:LLI}{H:Hp}{Q:VK}(hi:σ[i]?=some (some (.ref p)))(D:FAt C H p ra ca af aw b L F W)(h:∀v∈F,0<v.length)(k:∀q zs tss H',Same H H'->H' q=some (.tup zs)->Its H' zs tss->tss.Perm F->C9 tss->Q (.ref q) H'):a1m C "told" (a6A C) [] E0 (L8 i) R9 σ H Q:=by
 obtain⟨⟨dx,ah,hs,a,_⟩,_,_,_⟩:=id D;exact⟨_,hi,p,dx,_,rfl,a,b2e _ _ _ _ _ _,p,ra,ca,af,aw,b,L,F,W,rfl,D,h,k⟩
theorem a2l:FnScope ["self"] ["self"] (A1 K3):=⟨rfl,rfl,rfl,by decide +kernel,rfl,by decide +kernel,by decide +kernel⟩
theorem b3L(e:MethAt K C "told" "Finder.told" K3 ["self"])(U:FiTx K C)(T:Tx mg):MethOk P w K mg base C "told" 1 ["self"] (a6A C):=by
 refine e.fnJ a2l (λvs H Q E h=>?_) (λu f A outer s H vs Q E g h=>?_)
 .obtain⟨p,ra,ca,af,aw,b,L,F,W,rfl,_⟩:=h;rfl
 .obtain⟨p,ra,ca,af,aw,b,L,F,W,rfl,D,hF,k⟩:=h;obtain⟨⟨dx,ah,hs,h1,h2,i,t,j⟩,⟨fs,f1,f2⟩,⟨n,r,m⟩,ne⟩:=id D;refine⟨_,(A4 (B0 (B8 K rfl T.b_tuple (jaC (R0 K rfl T.b_sorted (jaC (L5 K (jv 0)) jaN)) jaN)))),?_⟩;refine⟨_,rfl,p,C,dx,_,_,rfl,h1,U.cl,U.n5,a1c _ _ _ _ _ _,af,fs,F,rfl,.inl (SqL.of f1),f2,hF,λl zs tss hl hI c a _=>?_⟩;refine⟨l,_,rfl,.inl ⟨SqL.of A0,λq d=>?_⟩⟩;have s2:=((Same.refl H).upd (o:=.lst zs) hl).upd (o:=.tup zs) d;exact k q zs tss _ s2 A0 (hI.same s2) c a
inductive IspPaper(C:Addr)(vs:List V)(H:Hp)(Q:VK)(E:XK):Prop
 |mk (p ra ca af aw:Addr) (b:Bool) (L F W:LLI) (_:vs=[.ref p]) (_:FAt C H p ra ca af aw b L F W) (_:∀q zs H',Same H H'->H' q=some (.tup zs)->Its H' zs W->Q (.ref q) H'):IspPaper C vs H Q E
def a4m(C:Addr):Sp:=λvs H Q E=>IspPaper C vs H Q E
theorem b0L{σ:L2.St}{i:Nat}{C p ra ca af aw:Addr}{b:Bool}{L F W:LLI}{H:Hp}{Q:VK}(hi:σ[i]?=some (some (.ref p)))(D:FAt C H p ra ca af aw b L F W)(k:∀q zs H',Same H H'->H' q=some (.tup zs)->Its H' zs W->Q (.ref q) H'):a1m C "paper" (a4m C) [] E0 (L8 i) R9 σ H Q:=by
 obtain⟨⟨dx,ah,hs,a,_⟩,_,_,_⟩:=id D;exact⟨_,hi,p,dx,_,rfl,a,a9D _ _ _ _ _ _,p,ra,ca,af,aw,b,L,F,W,rfl,D,k⟩
theorem a1x:FnScope ["self"] ["self"] (A1 G5):=⟨rfl,rfl,rfl,by decide +kernel,rfl,by decide +kernel,by decide +kernel⟩
theorem b1r(d:MethAt K C "paper" "Finder.paper" G5 ["self"])(U:FiTx K C)(T:Tx mg):MethOk P w K mg base C "paper" 1 ["self"] (a4m C):=by
 refine d.fnJ a1x (λvs H Q E h=>?_) (λn f A outer s H vs Q E i h=>?_)
 .obtain⟨p,ra,ca,af,aw,b,L,F,W,rfl,_⟩:=h;rfl
 .obtain⟨p,ra,ca,af,aw,b,L,F,W,rfl,D,k⟩:=h;obtain⟨⟨dx,ah,hs,h1,h2,j,m,l⟩,⟨fs,f1,f2⟩,⟨a,g,e⟩,ne⟩:=id D;refine⟨_,(A4 (B0 (B8 K rfl T.b_tuple (jaC (L5 K (jv 0)) jaN)))),?_⟩;refine⟨_,rfl,p,C,dx,_,_,rfl,h1,U.cl,U.n6,a2V _ _ _ _ _ _,aw,_,rfl,.inl ⟨SqL.of g,λq c=>?_⟩⟩;have s2:=(Same.refl H).upd (o:=.tup a) c;exact k q a _ s2 A0 (e.same s2)
end
inductive Wk(rss:LLI)(cs:List (Option Int)):LLI->LLI->LLI->Nat->Prop
 |one {L:LLI}(ri:C9 L) (nd:L.Nodup) (h:∀v,v∈L↔v∈J8 cs):Wk rss cs (L.filter λv=>Ans rss v) L L 1
 |more {F W L L':LLI}{k:Nat}(h:Wk rss cs F W L k) (ne:L≠[]) (ri:C9 L') (nd:L'.Nodup) (hm:∀v,v∈L'↔∃u∈L,a0H rss cs F u v):Wk rss cs (F++L'.filter λv=>Ans rss v) (W++L') L' (k+1)
def b6U(rss:LLI)(cs:List (Option Int))(most:Int):Prop:=∃F W L k,Wk rss cs F W L k/\(most<W.length∨(L≠[]/\∃L':LLI,L'.Nodup/\(∀v∈L',∃u∈L,a0H rss cs F u v)/\most<W.length+L'.length))
theorem b4R{v:List Int}(h:∀x∈v,0<=x):∀x∈v,x<=v.sum:=by
 induction v with
 |nil=>intro x a;cases a
 |cons y v ih =>
  intro x a;have h1:=h y List.mem_cons_self;have h2:=b0o v λz b=>h z (List.mem_cons_of_mem _ b);rw[List.sum_cons];rcases List.mem_cons.mp a with rfl|a
  .omega
  .have:=ih (λz b=>h z (List.mem_cons_of_mem _ b)) x a;omega
theorem b4q{u:List Int}{j:Nat}(h:∀x∈u,0<=x):∀x∈bump u j,0<=x:=by
 intro x a;unfold bump at a;rcases List.mem_or_eq_of_mem_set a with z|z
 .exact h x z
 .by_cases hj:j<u.length
  .have:=h _ (List.getElem_mem (h:=hj));rw[List.getD_eq_getElem?_getD,List.getElem?_eq_getElem hj]at z;simp at z;omega
  .rw[List.getD_eq_getElem?_getD,List.getElem?_eq_none (by omega)]at z;simp at z;omega
theorem b0h(n j:Nat):∀x∈K6 n j,0<=x:=by
 intro x a;unfold K6 at a;obtain⟨i,_,rfl⟩:=List.mem_map.mp a;split<;>omega
theorem a6s(n j:Nat)(c:j<n):K6 n j=bump (List.replicate n 0) j:=by
 refine List.ext_getElem (by rw[J4,E4,List.length_replicate]) λi h1 h2=>?_;rw[J4]at h1;have a:=Q5 n j i h1;have b:=a0E (List.replicate n 0) j i (by simpa using c);rw[List.getD_eq_getElem?_getD,List.getElem?_eq_getElem (by rw[J4];exact h1)]at a;rw[List.getD_eq_getElem?_getD,List.getElem?_eq_getElem h2]at b;simp only[Option.getD_some]at a b;rw[a,b];simp only[List.getD_eq_getElem?_getD,List.getElem?_replicate,c,h1,if_true];by_cases e:i=j<;>simp[e]
theorem b0J(n:Nat):(List.replicate n (0:Int)).sum=0:=by
 induction n with
 |zero=>rfl
 |succ n ih=>rw[List.replicate_succ,List.sum_cons,ih];rfl
theorem a8C(n j:Nat)(a:j<n):(K6 n j).sum=1:=by
 rw[a6s n j a,a0D _ _ (by simpa using a),b0J];rfl
theorem a4i{rss:LLI}{cs:List (Option Int)}{u:List Int}{j:Nat}(h:j∈StP rss cs u):j<u.length/\a0G rss u j<0/\a6l (cs.getD j none) (u.getD j 0)=true:=by
 unfold StP at h;rw[List.mem_filter,List.mem_filter,List.mem_range,decide_eq_true_eq]at h;exact⟨h.1.1,h.1.2,h.2⟩
structure LvF(n k:Nat)(v:List Int):Prop where
 len:v.length=n
 nn:∀x∈v,0<=x
 sum:v.sum=k
theorem a1b{cs:List (Option Int)}{v:List Int}(h:v∈J8 cs):LvF cs.length 1 v:=by
 obtain⟨j,a,rfl⟩:=List.mem_map.mp (List.mem_filter.mp h).1;exact⟨J4 _ _,b0h _ _,a8C _ _ (List.mem_range.mp a)⟩
theorem b1y{rss:LLI}{cs:List (Option Int)}{F:LLI}{u v:List Int}{n k:Nat}(a:LvF n k u)(h:a0H rss cs F u v):LvF n (k+1) v:=by
 obtain⟨j,b,rfl,_⟩:=h;have:=(a4i b).1;exact⟨by rw[E4];exact a.len,b4q a.nn,by rw[a0D _ _ this,a.sum];omega⟩
theorem Wk.lv{rss:LLI}{cs:List (Option Int)}{F W L:LLI}{k:Nat}(h:Wk rss cs F W L k):(∀v∈L,LvF cs.length k v)/\(∀v∈W,∃i,1<=i/\i<=k/\LvF cs.length i v)/\(∀v∈F,v∈W/\Ans rss v=true)/\F.length<=W.length/\L.length<=W.length/\1<=k/\k<=W.length+1/\(L≠[]->k<=W.length):=by
 induction h with
 |@one L ri nd h =>
  refine⟨λv a=>a1b ((h v).mp a),λv a=>⟨1,by omega,by omega,a1b ((h v).mp a)⟩,λv a=>List.mem_filter.mp a,List.length_filter_le _ _,Nat.le_refl _,by omega,by omega,λne=>?_⟩;cases L with
  |nil=>exact absurd rfl ne
  |cons x L=>simp
 |@more F W L L' k h ne ri nd hm ih =>
  obtain⟨d,l,c,m,p,o,n,j⟩:=ih;have b:∀v∈L',LvF cs.length (k+1) v:=λv a=>by
   obtain⟨u,f,e⟩:=(hm v).mp a;exact b1y (d u f) e
  have:=List.length_filter_le (λv=>Ans rss v) L';have k8:=j ne;refine⟨b,λv a=>?_,λv a=>?_,by rw[List.length_append,List.length_append];omega,by rw[List.length_append];omega,by omega,by rw[List.length_append];omega,λg=>?_⟩
  .rcases List.mem_append.mp a with z|z
   .obtain⟨i,q1,q2,q3⟩:=l v z;exact⟨i,q1,by omega,q3⟩
   .exact⟨k+1,by omega,by omega,b v z⟩
  .rcases List.mem_append.mp a with z|z
   .exact⟨List.mem_append_left _ (c v z).1,(c v z).2⟩
   .exact⟨List.mem_append_right _ (List.mem_filter.mp z).1,(List.mem_filter.mp z).2⟩
  .rw[List.length_append];have:0<L'.length:=List.length_pos_iff.mpr g;omega
section
variable {P:Program}{w:World}{K:PySem.W.Frag}{mg:Str->Option Value}{base:Heap}{C:Addr}
inductive IspLeast(D:Addr)(vs:List V)(H:Hp)(Q:VK)(E:XK):Prop
 |mk (ra ca:Addr) (rss:LLI) (cs:List (Option Int)) (most:Nat) (mi:Int) (_:vs=[.ref ra,.ref ca,.int mi]) (_:mi=most) (_:SyAt H ra ca rss cs) (_:(most+1)*cs.length+200<=100000) (_:(∀q t pp zs tss ws F W k H',Same H H'->H' q=some (.tup [.ref t,.ref pp])->H' t=some (.tup zs)->Its H' zs tss->tss.Perm F->C9 tss->H' pp=some (.tup ws)->Its H' ws W->Wk rss cs F W [] k->W.length<=most->Q (.ref q) H')) (_:(∀H',Same H H'->b6U rss cs most->E (.ref D) none H')):IspLeast D vs H Q E
def a7P(D:Addr):Sp:=λvs H Q E=>IspLeast D vs H Q E
theorem sc_least:FnScope ["rows","caps","most","finder","room"] ["rows","caps","most"] (A1 a1O):=⟨rfl,rfl,rfl,by decide +kernel,rfl,by decide +kernel,by decide +kernel⟩
theorem b1s{p:Addr}(S:FunAt K mg "least" a1O ["rows","caps","most"])(T:Tx mg)(U:FiTx K C)(a:Cls K C)(G:MakeOk P w K mg base "Finder" C 1 ["self","rows","caps"] (a7T C))(d:MethOk P w K mg base C "step_within" 6 ["self","room"] (a4k C))(l:MethOk P w K mg base C "ended" 1 ["self"] (a4o C))(r:MethOk P w K mg base C "told" 1 ["self"] (a6A C))(n:MethOk P w K mg base C "paper" 1 ["self"] (a4m C))
  (t:OwnCls "TooMany" p [.type "ValueError",.type "Exception",.type "BaseException",.type "object"] "ValueError.__new__" mg base):OkE P w K mg base "least" 7 ["rows","caps","most"] (a7P p):=by
 refine S.okE sc_least (λvs H Q E h=>?_) (λc4 f A outer s H vs Q E hr h=>?_)
 .obtain⟨ra,ca,rss,cs,most,mi,rfl,_⟩:=h;rfl
 .obtain⟨ra,ca,rss,cs,most,_,rfl,rfl,Y,hbig,kq,ke⟩:=h;refine⟨_,(A3 (B2 (i:=3) sc_least.nd rfl (Or.inl rfl) (b6u G (hr.mono (by omega)) rfl (jaC (jv 0) (jaC (jv 1) jaN))))
 (A3 (B2 (i:=4) sc_least.nd rfl (Or.inl rfl) (jv 2))
 (A3 (a5Z (V8 (E2 K (a4M l a (hr.mono (by omega)) (jv 3))))
 (A3 (B2 (i:=4) sc_least.nd rfl (Or.inl rfl) (a8l (jv 4) (b6t d a (hr.mono (by omega)) (jv 3) (jaC (jv 4) jaN))))
 (A4 (E8 (b1G (jv 4) A5)
 (A4 (b1I t PySem.F.excBase_ValueError rfl PySem.F.excBase_ValueError rfl (jaC b7w jaN)))
 C8))) (hp:=PassesOwn.leaving))
 (A4 (B0 (N2 (jaC (a4M r a (hr.mono (by omega)) (jv 3)) (jaC (a4M n a (hr.mono (by omega)) (jv 3)) jaN)))))))),?_⟩
  refine⟨_,rfl,_,rfl,λx dx hx a8 J=>?_⟩;have a1:upd H dx (.own x) x=none:=by rw[A2 J.symm];exact hx
  have s0:Same H (upd (upd H dx (.own x)) x (.ins C dx [])):=((Same.refl H).upd a8).upd a1;refine⟨x,dx,ra,ca,rfl,A0,λaf aw H1 a2 b4 D1 _ kp=>⟨rfl,?_⟩⟩;have X:H af=none:=s0.free a2;have Z:H aw=none:=s0.free b4;have s1:Same H H1:=λb o e=>kp b o (s0 b o e) (A6 e hx);dsimp only[A9];refine⟨_,rfl,?_⟩;dsimp only[A9];have hz:(300000:Nat)<=sizeLine:=by rw[sizeLine_eq];decide
  refine X1 (λσ H'=>σ=[some (.ref ra),some (.ref ca),some (.int most),some (.ref x),σ.getD 4 none]/\Same H H'/\∃F W k,FAt C H' x ra ca af aw true [] F W/\Wk rss cs F W [] k/\W.length<=most) ?fin λfin=>?_
  case fin =>
   rintro σ H2 ⟨hσ,s2,F,W,k,M,D,O⟩;obtain⟨⟨b1,ah,hs,h1,h2,h3,h4,h5⟩,_,_,_⟩:=id M;have V:=D.lv;rw[hσ];refine b3b rfl M (λv I=>?_) λq1 zs tss H3 s3 b3 b5 a3 a6=>?_
   .obtain⟨i,_,_,lv⟩:=V.2.1 v (V.2.2.1 v I).1;rw[lv.len];exact Y.n1
   have D3:=M.same s3;obtain⟨⟨c1,c0,c2,g1,_⟩,_,_,_⟩:=id D3;refine b0L rfl D3 λq2 ws H4 s4 a9 a7=>?_;refine⟨by show 2<=sizeLine;omega,λq hq=>?_⟩;have s5:=(Same.refl H4).upd (o:=.tup [.ref q1,.ref q2]) hq;exact kq q q1 q2 zs tss ws F W k _ (((s2.trans s3).trans s4).trans s5) A0 (s5 _ _ (s4 _ _ b3)) ((b5.same s4).same s5) a3 a6 (s5 _ _ a9) (a7.same s5) D O
  refine⟨λm σ H'=>∃(b:Bool) (L F W:LLI) (room:Int),σ=[some (.ref ra),some (.ref ca),some (.int most),some (.ref x),some (.int room)]/\Same H H'/\FAt C H' x ra ca af aw b L F W/\0<=room/\m=room.toNat+(if b=true/\L=[] then 0 else 1)/\((b=false/\L=[]/\F=[]/\W=[]/\room=most)∨(b=true/\∃k,Wk rss cs F W L k/\room=most-W.length)),
   ⟨_,false,[],[],[],_,rfl,s1,D1,by omega,rfl,.inl ⟨rfl,rfl,rfl,rfl,rfl⟩⟩,?_⟩
  rintro m σ H2 ⟨b,L,F,W,room,rfl,s2,M,r0,rfl,N⟩;obtain⟨⟨b1,ah,hs,h1,h2,h3,h4,h5⟩,_,_,_⟩:=id M;refine b0M rfl M ⟨_,rfl,?_⟩;have b0:=Y.n1;have c3:most+1<=(most+1)*cs.length:=Nat.le_mul_of_pos_right _ b0;by_cases he:b=true/\L=[]
  .obtain⟨rfl,rfl⟩:=he;refine D6 ?_;rcases N with⟨z,_⟩|⟨_,k,D,g⟩
   .cases z
   .exact fin _ _ ⟨rfl,s2,F,W,k,M,D,by omega⟩
  .have hb:(b && decide (L=[]))=false:=by
    cases b with
    |false=>rfl
    |true =>
     have:L≠[]:=λz=>he ⟨rfl,z⟩;simpa using this
   rw[hb,if_neg he];refine F0 ⟨λσ' H'=>∃(L' S W':LLI) (k:Nat) (j:Int),σ'=[some (.ref ra),some (.ref ca),some (.int most),some (.ref x),some (.int j)]/\Same H H'/\FAt C H' x ra ca af aw true L' S W'/\0<=j/\Wk rss cs S W' L' k/\j=most-W'.length/\j.toNat+(if L'=[] then 0 else 1)<room.toNat+1,λσ' H' ⟨L',S,W',k,j,e1,e2,e3,e4,e5,e6,e7⟩=>⟨_,e7,true,L',S,W',j,e1,e2,e3,e4,by simp,.inr ⟨rfl,k,e5,e6⟩⟩,?_⟩;obtain⟨B,hB,hL,hF,b8,a4,b7⟩:∃B:Int,B<=2 ^ 60/\(∀v∈L,v.length=cs.length/\∀y∈v,0<=y/\y<=B)/\(∀v∈F,v.length=cs.length)/\W.length<=most/\L.length<=most/\F.length<=most:=by
    rcases N with⟨rfl,rfl,rfl,rfl,_⟩|⟨rfl,k,D,g⟩
    .exact⟨0,by omega,(λ_ z=>nomatch z),(λ_ z=>nomatch z),by simp,by simp,by simp⟩
    .obtain⟨i1,i2,i3,i4,i5,i6,i7,i8⟩:=D.lv;refine⟨k,by omega,λv I=>⟨(i1 v I).len,λy hy=>⟨(i1 v I).nn y hy,?_⟩⟩,λv I=>?_,by omega,by omega,by omega⟩
     .have:=b4R (i1 v I).nn y hy;rw[(i1 v I).sum]at this;exact this
     .obtain⟨i,_,_,lv⟩:=i2 v (i3 v I).1;exact lv.len
   have b6:L.length*cs.length<=most*cs.length:=Nat.mul_le_mul_right _ a4;have b9:(most+1)*cs.length=most*cs.length+cs.length:=by rw[Nat.add_mul,Nat.one_mul]
   refine⟨_,rfl,b0K rfl rfl M (Y.same s2) (.inr ⟨room,rfl,r0⟩) hL hB hF (by omega) (by omega) (by omega) λL' H3 R D3 _ a0=>?_⟩;refine⟨_,_,rfl,rfl,?_⟩;dsimp only[A9];have s3:Same H H3:=λc o e=>a0 c o (by simpa using⟨A6 e hx,A6 e X,A6 e Z⟩) (s2 c o e);have key:(∃k,Wk rss cs (F++L'.filter λv=>Ans rss v) (W++L') L' k/\room=most-W.length)∨(room<L'.length/\b6U rss cs most):=by
    rcases N with⟨rfl,rfl,rfl,rfl,g⟩|⟨rfl,k,D,g⟩
    .exact .inl ⟨1,by simpa using Wk.one R.ri R.nd (R.fst rfl),by simpa using g⟩
    .have J:L≠[]:=λz=>he ⟨rfl,z⟩;rcases R.all rfl with ha|⟨m',e',a5⟩
     .exact .inl ⟨k+1,.more D J R.ri R.nd λv=>⟨R.snd rfl v,λ⟨u,hu,I⟩=>ha u hu v I⟩,g⟩
     .cases e';exact .inr ⟨a5,F,W,L,k,D,.inr ⟨J,L',R.nd,R.snd rfl,by omega⟩⟩
   refine⟨_,rfl,_,_,rfl,rfl,_,rfl,a3n (λe=>?_) (λe=>?_)⟩
   .have e':room-(L'.length:Int)<0:=of_decide_eq_true e;refine⟨by rw[sizeLine_eq];decide,ke _ s3 ?_⟩;rcases key with⟨k,D,g⟩|⟨_,ho⟩
    .exact⟨_,_,_,k,D,.inl (by rw[List.length_append];omega)⟩
    .exact ho
   .have e':¬room-(L'.length:Int)<0:=λz=>e (decide_eq_true z);rcases key with⟨k,D,g⟩|⟨b2,_⟩
    .refine⟨L',_,_,k,_,rfl,s3,D3,by omega,D,by rw[List.length_append];omega,?_⟩;cases L' with
     |nil=>simp
     |cons y L'=>simp only[List.length_cons]at e'⊢;rw[if_neg (by simp)];omega
    .exact absurd b2 (by omega)
end
structure Answer(rss:LLI)(n:Nat)(v:List Int):Prop where
 len:v.length=n
 nn:∀x∈v,0<=x
 ans:Ans rss v=true
 pos:0<v.sum
structure Least(rss:LLI)(cs:List (Option Int))(v:List Int):Prop where
 an:Answer rss cs.length v
 wi:Wi cs v=true
 min:∀u,Answer rss cs.length u->Under u v->u=v
theorem Under.refl(v:List Int):Under v v:=⟨rfl,λ_ _=>Int.le_refl _⟩
theorem Under.trans{a b c:List Int}(h:Under a b)(g:Under b c):Under a c :=
 ⟨h.1.trans g.1,λj d=>Int.le_trans (h.2 j (by rw[g.1];exact d)) (g.2 j d)⟩
theorem Under.eq{a b:List Int}(h:Under a b)(hs:b.sum<=a.sum):a=b:=by
 refine Classical.byContradiction λne=>?_;have:=h.sum.2 ne;omega
theorem a0I{cs:List (Option Int)}{v:List Int}(h:v.length=cs.length):Wi cs v=true↔∀j,j<cs.length->a9K (cs.getD j none) (v.getD j 0)=true:=by
 unfold Wi;induction cs generalizing v with
 |nil=>simp
 |cons c cs ih =>
  cases v with
  |nil=>cases h
  |cons x v =>
   rw[List.zipWith_cons_cons,List.all_cons,Bool.and_eq_true,ih (by simpa using h)];constructor
   .rintro⟨h1,h2⟩ j a;cases j with
    |zero=>exact h1
    |succ j=>exact h2 j (by simpa using a)
   .intro h1;exact⟨h1 0 (by simp),λj a=>h1 (j+1) (by simpa using a)⟩
theorem a9J{c:Option Int}{x y:Int}(h:a9K c y=true)(a:x<=y):a9K c x=true:=by
 cases c with
 |none=>rfl
 |some c =>
  have:y<=c:=of_decide_eq_true h;exact decide_eq_true (by omega)
theorem a1I{cs:List (Option Int)}{u v:List Int}(a:v.length=cs.length)(h:Wi cs v=true)(b:Under u v):Wi cs u=true:=by
 rw[a0I a]at h;rw[a0I (by rw[b.1];exact a)];intro j c;exact a9J (h j c) (b.2 j (by rw[a];exact c))
theorem a6n{rss:LLI}{v:List Int}(h:Ans rss v=true)(j:Nat):a0G rss v j=0:=by
 unfold a0G O7;unfold Ans at h;induction rss with
 |nil=>rfl
 |cons r rss ih =>
  rw[List.all_cons,Bool.and_eq_true,decide_eq_true_eq]at h;rw[List.map_cons,List.zipWith_cons_cons,List.sum_cons,ih h.2,h.1];omega
theorem C1{f v:List Int}(hl:f.length=v.length):Bel f v=true↔Under f v:=by
 constructor
 .intro h;refine⟨hl,?_⟩;unfold Bel at h;induction f generalizing v with
  |nil =>
   intro j a;rw[<-hl]at a;simp at a
  |cons x f ih =>
   cases v with
   |nil=>cases hl
   |cons y v =>
    rw[List.zipWith_cons_cons,List.all_cons,Bool.and_eq_true]at h;intro j a;cases j with
    |zero=>exact of_decide_eq_true h.1
    |succ j=>exact ih (by simpa using hl) h.2 j (by simpa using a)
 .intro h;unfold Bel;induction f generalizing v with
  |nil=>rfl
  |cons x f ih =>
   cases v with
   |nil=>cases hl
   |cons y v =>
    obtain⟨h1,h2⟩:=h.tail;rw[List.zipWith_cons_cons,List.all_cons,ih (by simpa using hl) h2,Bool.and_true];exact decide_eq_true h1
theorem M7{rss:LLI}{cs:List (Option Int)}:∀(m:Nat) {u:List Int},u.sum<=m->Answer rss cs.length u->Wi cs u=true->∃a,Least rss cs a/\Under a u
 |0,u,hm,h,_=>absurd h.pos (by omega)
 |m+1,u,hm,h,hw=>by
  by_cases c:∃t,Answer rss cs.length t/\Under t u/\t≠u
  .obtain⟨t,h1,h2,h3⟩:=c;have:=h2.sum.2 h3;obtain⟨a,ha,b⟩:=M7 m (u:=t) (by omega) h1 (a1I h.len hw h2);exact⟨a,ha,b.trans h2⟩
  .exact⟨u,⟨h,hw,λt d b=>Classical.byContradiction λne=>c ⟨t,d,b,ne⟩⟩,Under.refl u⟩
theorem a4C:∀{v:List Int},(∀x∈v,0<=x)->0<v.sum->∃j,j<v.length/\1<=v.getD j 0
 |[],_,h=>by simp at h
 |x::v,hn,h=>by
  by_cases a:1<=x
  .exact⟨0,by simp,by simpa using a⟩
  .have h0:=hn x List.mem_cons_self;rw[List.sum_cons]at h;obtain⟨j,h1,h2⟩:=a4C (v:=v) (λy b=>hn y (List.mem_cons_of_mem _ b)) (by omega);exact⟨j+1,by simpa using h1,by simpa using h2⟩
theorem b4S{v:List Int}(h:∀x∈v,0<=x)(j:Nat):0<=v.getD j 0:=by
 rw[List.getD_eq_getElem?_getD];cases e:v[j]? with
 |none=>simp
 |some x=>simpa using h x (List.mem_of_getElem? e)
structure WkOk(rss:LLI)(cs:List (Option Int))(F L:LLI)(k:Nat):Prop where
 wi:∀v∈L,Wi cs v=true
 bar:∀v∈L,∀f∈F,Under f v->f=v
 snd:∀f∈F,Least rss cs f
 all:∀a,Least rss cs a->a.sum<=k->a∈F
 up:∀a,Least rss cs a->k<=a.sum->∃v∈L,Under v a
theorem Wk.ok{rss:LLI}{cs:List (Option Int)}{F W L:LLI}{k:Nat}(hR:∀r∈rss,r.length=cs.length)(h:Wk rss cs F W L k):WkOk rss cs F L k:=by
 induction h with
 |@one L ri nd h =>
  have g:∀v∈L,LvF cs.length 1 v:=λv d=>a1b ((h v).mp d);have l:∀v∈L,Wi cs v=true:=λv d=>(List.mem_filter.mp ((h v).mp d)).2;have p:∀a,Least rss cs a->((1:Nat):Int)<=a.sum->∃v∈L,Under v a:=λa ha _=>by
   obtain⟨j,h1,h2⟩:=a4C ha.an.nn ha.an.pos;rw[ha.an.len]at h1;have b:Under (K6 cs.length j) a:=⟨by rw[J4,ha.an.len],λi hi=>by
    rw[ha.an.len]at hi;rw[Q5 _ _ _ hi];by_cases e:i=j
    .rw[if_pos e,e];exact h2
    .rw[if_neg e];exact b4S ha.an.nn i⟩
   exact⟨_,(h _).mpr (List.mem_filter.mpr ⟨List.mem_map.mpr ⟨j,List.mem_range.mpr h1,rfl⟩,a1I ha.an.len ha.wi b⟩),b⟩
  refine⟨l,λv d f hf b=>?_,λf hf=>?_,λa ha hs=>?_,p⟩
  .have h1:=(g v d).sum;have h2:=(g f (List.mem_filter.mp hf).1).sum;exact b.eq (by omega)
  .obtain⟨hf1,m⟩:=List.mem_filter.mp hf;have lv:=g f hf1;refine⟨⟨lv.len,lv.nn,m,by rw[lv.sum];decide⟩,l f hf1,λu n b=>b.eq ?_⟩;have:=n.pos;rw[lv.sum];omega
  .obtain⟨v,d,b⟩:=p a ha (by have:=ha.an.pos;omega);have h1:=(g v d).sum;have:v=a:=b.eq (by omega);subst this;exact List.mem_filter.mpr ⟨d,ha.an.ans⟩
 |@more F W L L' k h ne ri nd hm ih =>
  obtain⟨E,S,N,T,U,i6,X,V⟩:=h.lv;have g:∀v∈L',LvF cs.length (k+1) v:=λv d=>by
   obtain⟨u,n,P⟩:=(hm v).mp d;exact b1y (E u n) P
  have y:∀f∈F,f.length=cs.length/\f.sum<=k:=λf hf=>by
   obtain⟨i,Z,Y,lv⟩:=S f (N f hf).1;exact⟨lv.len,by rw[lv.sum];omega⟩
  have p:∀a,Least rss cs a->((k+1:Nat):Int)<=a.sum->∃v∈L',Under v a:=λa ha hs=>by
   obtain⟨v,d,b⟩:=ih.up a ha (by omega);have lv:=E v d;have hva:v≠a:=λz=>by rw[<-z,lv.sum]at hs;omega
   have J:Ans rss v=false:=by
    cases e:Ans rss v with
    |false=>rfl
    |true=>exact absurd (ha.min v ⟨lv.len,lv.nn,e,by rw[lv.sum];omega⟩ b) hva
   have hp:=b4N rss v a (λr O=>by rw[hR r O,ha.an.len]) b hva ha.an.ans;obtain⟨j,q⟩:=List.exists_mem_of_ne_nil _ hp;have D:=a6S q;have K:a0G rss v j<0:=by
    unfold Pl at q;rw[List.mem_filter,J,Bool.false_or,Bool.and_eq_true]at q;exact of_decide_eq_true q.2.2
   have A:Under (bump v j) a:=b.bump q;have hw:=(a0I ha.an.len).mp ha.wi j (by rw[<-ha.an.len];exact D.1);refine⟨bump v j,(hm _).mpr ⟨v,d,j,?_,rfl,?_⟩,A⟩
   .unfold StP;rw[List.mem_filter,List.mem_filter,List.mem_range,decide_eq_true_eq];refine⟨⟨by rw[b.1];exact D.1,K⟩,?_⟩;cases e:cs.getD j none with
    |none=>rfl
    |some c =>
     rw[e]at hw;have:a.getD j 0<=c:=of_decide_eq_true hw;exact decide_eq_true (by omega)
   .cases e:Bar F (bump v j) j with
    |false=>rfl
    |true =>
     unfold Bar at e;obtain⟨f,hf,m⟩:=List.any_eq_true.mp e;rw[Bool.and_eq_true]at m;have x:=(y f hf).1;have w:Under f a:=((C1 (by rw[x,E4,lv.len])).mp m.2).trans A;have:=ha.min f (ih.snd f hf).an w;have h2:=(y f hf).2;rw[this]at h2;omega
  have l:∀v∈L',Wi cs v=true:=λv d=>by
   obtain⟨u,n,j,q,rfl,_⟩:=(hm v).mp d;have s:=(E u n).len;have o:=a4i q;have hw:=ih.wi u n;rw[a0I s]at hw;rw[a0I (by rw[E4];exact s)];intro i hi;rw[a0E _ _ _ o.1];by_cases e:i=j
   .rw[if_pos e,e];have G:=o.2.2;cases Q:cs.getD j none with
    |none=>rfl
    |some c =>
     rw[Q]at G;have:u.getD j 0<c:=of_decide_eq_true G;exact decide_eq_true (by omega)
   .rw[if_neg e];exact hw i hi
  have t:∀v∈L',∀f∈F++L'.filter (λv=>Ans rss v),Under f v->f=v:=λv d f hf b=>by
   rcases List.mem_append.mp hf with z|z
   .obtain⟨u,n,j,q,rfl,hb⟩:=(hm v).mp d;have s:=(E u n).len;have o:=a4i q;have x:=(y f z).1;exfalso;by_cases e:f.getD j 0=(bump u j).getD j 0
    .have:Bar F (bump u j) j=true:=by
      unfold Bar;exact List.any_eq_true.mpr ⟨f,z,by rw[Bool.and_eq_true];exact⟨decide_eq_true e,(C1 b.1).mpr b⟩⟩
     rw[this]at hb;cases hb
    .have w:Under f u:=⟨by rw[x,s],λi hi=>by
      have h1:=b.2 i (by rw[E4];exact hi);rw[a0E _ _ _ o.1]at h1;by_cases M:i=j
      .subst M;rw[a0E _ _ _ o.1,if_pos rfl]at e;rw[if_pos rfl]at h1;omega
      .rw[if_neg M]at h1;exact h1⟩
     have h2:=ih.bar u n f z w;have G:=a6n (N f z).2 j;rw[h2]at G;omega
   .have h1:=(g v d).sum;have h2:=(g f (List.mem_filter.mp z).1).sum;exact b.eq (by omega)
  have B:∀a,Least rss cs a->a.sum<=((k+1:Nat):Int)->a∈F++L'.filter (λv=>Ans rss v):=λa ha hs=>by
   by_cases h1:a.sum<=(k:Int)
   .exact List.mem_append_left _ (ih.all a ha h1)
   .obtain⟨v,d,b⟩:=p a ha (by omega);have h2:=(g v d).sum;have:v=a:=b.eq (by omega);subst this;exact List.mem_append_right _ (List.mem_filter.mpr ⟨d,ha.an.ans⟩)
  refine⟨l,t,λf hf=>?_,B,p⟩;rcases List.mem_append.mp hf with z|z
  .exact ih.snd f z
  .obtain⟨hf1,m⟩:=List.mem_filter.mp z;have lv:=g f hf1;refine⟨⟨lv.len,lv.nn,m,by rw[lv.sum];omega⟩,l f hf1,λu n b=>?_⟩;refine Classical.byContradiction λR=>?_;have I:=b.sum.2 R;rw[lv.sum]at I;obtain⟨a,ha,C⟩:=M7 (rss:=rss) (cs:=cs) u.sum.toNat (by have:=n.pos;omega) n (a1I lv.len (l f hf1) b);have hs:=C.sum.1;have H:=ih.all a ha (by omega);have:=t f hf1 a (List.mem_append_left _ H) (C.trans b);rw[this,lv.sum]at hs;omega
theorem Wk.least{rss:LLI}{cs:List (Option Int)}{F W:LLI}{k:Nat}(hR:∀r∈rss,r.length=cs.length)(h:Wk rss cs F W [] k)(v:List Int):v∈F↔Least rss cs v:=by
 have o:=h.ok hR;refine⟨o.snd v,λa=>?_⟩;by_cases hs:v.sum<=(k:Int)
 .exact o.all v a hs
 .obtain⟨u,hu,_⟩:=o.up v a (by omega);cases hu
theorem Wk.nd{rss:LLI}{cs:List (Option Int)}{F W L:LLI}{k:Nat}(h:Wk rss cs F W L k):W.Nodup/\F.Nodup:=by
 induction h with
 |@one L ri nd h=>exact⟨nd,nd.sublist List.filter_sublist⟩
 |@more F W L L' k h ne ri nd hm ih =>
  obtain⟨d,l,f,m,s,q,p,r⟩:=h.lv;have a:∀v∈W,∀u∈L',v≠u:=λv c u b e=>by
   obtain⟨i,o,n,lv⟩:=l v c;obtain⟨t,j,g⟩:=(hm u).mp b;have:=(b1y (d t j) g).sum;rw[<-e,lv.sum]at this;omega
  refine⟨List.nodup_append.mpr ⟨ih.1,nd,a⟩,List.nodup_append.mpr ⟨ih.2,nd.sublist List.filter_sublist,λv c u b=>a v (f v c).1 u (List.mem_filter.mp b).1⟩⟩
theorem a2q:∀{a b:LLI},C9 a->C9 b->a.Nodup->b.Nodup->(∀v,v∈a↔v∈b)->a=b
 |[],[],_,_,_,_,_=>rfl
 |[],y::b,_,_,_,_,h=>by have:=(h y).mpr List.mem_cons_self;cases this
 |x::a,[],_,_,_,_,h=>by have:=(h x).mp List.mem_cons_self;cases this
 |x::a,y::b,ra,rb,na,nb,h=>by
  obtain⟨g,j⟩:=List.pairwise_cons.mp ra;obtain⟨d,c⟩:=List.pairwise_cons.mp rb;obtain⟨n1,n2⟩:=List.nodup_cons.mp na;obtain⟨i,f⟩:=List.nodup_cons.mp nb;have e:x=y:=by
   refine M8 x y ?_ ?_
   .rcases List.mem_cons.mp ((h x).mp List.mem_cons_self)with z|z
    .rw[z];exact J6 y
    .exact d x z
   .rcases List.mem_cons.mp ((h y).mpr List.mem_cons_self)with z|z
    .rw[z];exact J6 x
    .exact g y z
  subst e;rw[a2q j c n2 f λv=>?_];constructor
  .intro hv;rcases List.mem_cons.mp ((h v).mp (List.mem_cons_of_mem _ hv))with z|z
   .exact absurd (z ▸ hv) n1
   .exact z
  .intro hv;rcases List.mem_cons.mp ((h v).mpr (List.mem_cons_of_mem _ hv))with z|z
   .exact absurd (z ▸ hv) i
   .exact z
theorem I9{H:Hp}{a b:Addr}{n:Nat}(h:PotAt H a b n){c:Addr}(hc:H c=none):c∉[a,b]:=by
 obtain⟨_,cs,t,k,h1,h2,_⟩:=h;simp only[List.mem_cons,List.not_mem_nil,or_false,not_or];exact⟨(A6 h1 hc).symm,(A6 h2 hc).symm⟩
theorem a4B{H:Hp}{a b:Addr}{n:Nat}(h:PotAt H a b n){c:Addr}{o:HO}(hc:c∉[a,b]):PotAt (upd H c o) a b n:=by
 simp only[List.mem_cons,List.not_mem_nil,or_false,not_or]at hc;obtain⟨ne,cs,t,g,d,e,f⟩:=h;exact⟨ne,cs,t,g,by rw[A2 (Ne.symm hc.1)];exact d,by rw[A2 (Ne.symm hc.2)];exact e,f⟩
section
variable {P:Program}{w:World}{K:PySem.W.Frag}{mg:Str->Option Value}{base:Heap}
theorem two_at(x y:Int)(c:Bool):∃m:Int,atI [V.int x,.int y] (if c=true then 1 else 0)=some (.int m)/\(m=x∨m=y):=by
 cases c
 .exact⟨x,rfl,.inl rfl⟩
 .exact⟨y,rfl,.inr rfl⟩
theorem two_at'(x y r:Int)(h0:0<=r)(h1:r<2):∃m:Int,atI [V.int x,.int y] r=some (.int m)/\(m=x∨m=y):=by
 have:r=0∨r=1:=by omega
 rcases this with rfl|rfl
 .exact⟨x,rfl,.inl rfl⟩
 .exact⟨y,rfl,.inr rfl⟩
theorem b7B{n k:Nat}(h:k<n):ixN n (k:Int)=some k:=by
 unfold ixN;rw[if_pos (by omega),if_pos (by omega)];rfl
theorem a8V{src:List (Option Nat)}{σ caps:L2.St}{Q:VK}{n f c:Nat}{H:Hp}{a b:Addr}{te:TE}(R:Int->Prop)(t:n<=1000)(g:B1 src σ=none::caps)(u:PotAt H a b f)
  (m:∀(i:Nat) (H':Hp) (N:VK),i<n->PotAt H' a b (f+c*i)->(∀r d,R r->PotAt d a b (f+c*i+c)->Off [a,b] H' d->N (.int r) d)->te (some (.int i)::caps) H' N)
  (hd:∀H' p (xs:List Int),xs.length=n->(∀x∈xs,R x)->PotAt H' a b (f+c*n)->Off [a,b] H H'->H' p=none->Q (.ref p) (upd H' p (.lst (xs.map V.int)))):E5 src (A9 0) K7 te σ Q (Itr 0 n) H:=by
 refine a0s t g (λi ys H'=>Ex1 λ(xs:List Int)=>An5 (ys=xs.map V.int) (xs.length=i) ((∀x∈xs,R x)) (PotAt H' a b (f+c*i)) (Off [a,b] H H')) ⟨[],rfl,rfl,(λ_ z=>nomatch z),u,Off.refl _ _⟩ (λi ys H' h=>by obtain⟨xs,e,j,_⟩:=h;rw[e,List.length_map,j];exact Nat.le_refl _) ?_ ?_
 .rintro i ys H' hi ⟨xs,rfl,j,hR,hP',off⟩;refine m i H' _ hi hP' λr d s k l=>⟨xs++[r],by simp,by simp[j],λx o=>?_,?_,off.trans l⟩
  .rcases List.mem_append.mp o with q|q
   .exact hR x q
   .rw[List.mem_singleton.mp q];exact s
  .have:f+c*(i+1)=f+c*i+c:=by rw[Nat.mul_add,Nat.mul_one,Nat.add_assoc]
   rw[this];exact k
 .rintro ys H' ⟨xs,rfl,j,hR,hP',off⟩ p hp;exact hd H' p xs j hR hP' off hp
theorem a0Q{l:List Addr}{H H':Hp}{p:Addr}{o:HO}(s:Off l H H')(hp:H p=none):Off l H (upd H' p o):=λb u hb e=>by
 rw[A2 (A6 e hp)];exact s b u hb e
theorem a2x{H H':Hp}{a b:Addr}{n:Nat}{p:Addr}(o:Off [a,b] H H')(c:PotAt H' a b n)(hp:H' p=none):H p=none:=by
 rcases e:H p with _|u
 .rfl
 .have:=o _ _ (I9 c hp) e;rw[hp]at this;cases this
theorem T4{H H':Hp}{vs:List V}{rss:LLI}{a b:Addr}{n:Nat}(h:Its H vs rss)(c:PotAt H a b n)(o:Off [a,b] H H'):Its H' vs rss:=⟨h.1,λi v e=>let ⟨r,e1,e2⟩:=h.2 i v e;⟨r,e1,IT.off e2 c o⟩⟩
theorem a6Y{xs:List Int}{j:Nat}{z x:Int}(h:x∈xs.set j z):x∈xs∨x=z:=by
 exact List.mem_or_eq_of_mem_set h
theorem b5k(r:Int)(h0:0<=r)(h1:r<6):∃z:Int,atI [V.int 0,.int 1,.int 1,.int 2,.int 2,.int 1] r=some (.int z)/\0<=z/\z<=2:=by
 have:r=0∨r=1∨r=2∨r=3∨r=4∨r=5:=by omega
 rcases this with rfl|rfl|rfl|rfl|rfl|rfl
 .exact⟨0,rfl,by decide,by decide⟩
 .exact⟨1,rfl,by decide,by decide⟩
 .exact⟨1,rfl,by decide,by decide⟩
 .exact⟨2,rfl,by decide,by decide⟩
 .exact⟨2,rfl,by decide,by decide⟩
 .exact⟨1,rfl,by decide,by decide⟩
inductive IspWidth(vs:List V)(H:Hp)(Q:VK)(E:XK):Prop
 |mk (a b:Addr) (n:Nat) (_:vs=[.ref a]) (_:PotAt H a b n) (_:n+100<2 ^ 60) (_:∀(m:Nat) H',1<=m->m<=8->PotAt H' a b (n+2)->Off [a,b] H H'->Q (.int m) H'):IspWidth  vs H Q E
def a7N:Sp:=λvs H Q E=>IspWidth  vs H Q E
theorem a3h:FnScope ["_law_pot_here"] ["_law_pot_here"] (A1 M0):=⟨rfl,rfl,rfl,by decide +kernel,rfl,by decide +kernel,by decide +kernel⟩
theorem b1n(F:FunAt K mg "_law_width" M0 ["_law_pot_here"])(T:Tx mg)(c:Ok P w K mg base "_law_take" 1 ["_law_pot_here","_law_many"] a0M):Ok P w K mg base "_law_width" 2 ["_law_pot_here"] a7N:=by
 refine F.okJ a3h (λvs H Q E h=>?_) (λJ f A outer s H vs Q E v h=>?_)
 .obtain⟨a,b,n,rfl,_⟩:=h;rfl
 .obtain⟨a,b,n,rfl,hP,hn,k⟩:=h;have G:(3000:Nat)<=sizeLine:=by rw[sizeLine_eq];decide
  refine⟨_,(A4 (B0 (L0 A5 (A7 c (v.mono (by omega)) rfl (jaC (jv 0) (jaC (J2 K (J1 (jaC A5 (jaC A5 jaN))) (b1P rfl T.b_int (jaC (a3L (A7 c (v.mono (by omega)) rfl (jaC (jv 0) (jaC A5 jaN))) A5) jaN))) jaN)))))),?_⟩;refine⟨_,rfl,by show 2<=sizeLine;omega,λp hp=>?_⟩;have s1:=(Same.refl H).upd (o:=.lst [V.int 4,.int 8]) hp;have l:=I9 hP hp;refine⟨_,rfl,a,b,_,8,rfl,hP.same s1,by omega,by decide,by decide,λI H1 x C r d=>?_⟩;refine⟨rfl,.inr ⟨_,rfl,?_⟩⟩;obtain⟨m,u,B⟩:=two_at 4 8 (decide (V.int I=V.int 7));refine⟨p,_,_,_,rfl,rfl,SqL.of (d _ _ l A0),u,?_⟩;refine⟨a,b,_,m,rfl,r,by omega,by omega,by omega,λD H2 y z q g=>?_⟩;refine⟨_,_,rfl,rfl,?_⟩;obtain⟨t,rfl⟩:∃t:Nat,D=t:=⟨D.toNat,by omega⟩;have e:(1:Int)+(t:Int)=((t+1:Nat):Int):=by omega
  rw[show(λi j=>V.int (i+j)) (1:Int) (t:Int)=V.int ((t+1:Nat):Int) by simp;omega];exact k (t+1) H2 (by omega) (by omega) q ((s1.off.trans d).trans g)
inductive IspRows(vs:List V)(H:Hp)(Q:VK)(E:XK):Prop
 |mk (a b:Addr) (n m:Nat) (mi:Int) (_:vs=[.ref a,.int mi]) (_:mi=m) (_:1<=m) (_:m<=8) (_:PotAt H a b n) (_:n+1000<2 ^ 60) (_:∀q us rss H',H' q=some (.tup us)->Its H' us rss->us.length<=6->Rs m rss->PotAt H' a b (n+100)->Off [a,b] H H'->Q (.ref q) H'):IspRows  vs H Q E
def b0s:Sp:=λvs H Q E=>IspRows  vs H Q E
theorem sc__law_rows:FnScope ["_law_pot_here","_law_width_here","_law_many","_law_far","_law_rows_here","_law_k","_law_row","_law_great"] ["_law_pot_here","_law_width_here"] (A1 O5):=⟨rfl,rfl,rfl,by decide +kernel,rfl,by decide +kernel,by decide +kernel⟩
theorem b3P(F:FunAt K mg "_law_rows" O5 ["_law_pot_here","_law_width_here"])(T:Tx mg)(d:Ok P w K mg base "_law_take" 1 ["_law_pot_here","_law_many"] a0M):Ok P w K mg base "_law_rows" 2 ["_law_pot_here","_law_width_here"] b0s:=by
 refine F.okJ sc__law_rows (λvs H Q E h=>?_) (λl0 f A outer s H vs Q E U h=>?_)
 .obtain⟨a,b,n,m,mi,rfl,_⟩:=h;rfl
 .obtain⟨a,b,n,m,_,rfl,rfl,hm1,hm8,hP,hn,k⟩:=h;have hz:(3000:Nat)<=sizeLine:=by rw[sizeLine_eq];decide
  refine⟨_,(A3 (B2 (i:=2) sc__law_rows.nd rfl (Or.inl rfl) (J2 K (J1 (jaC (J2 K (J1 (jaC A5 (jaC A5 (jaC A5 (jaC A5 (jaC A5 (jaC A5 jaN))))))) (A7 d (U.mono (by omega)) rfl (jaC (jv 0) (jaC A5 jaN)))) (jaC (A7 d (U.mono (by omega)) rfl (jaC (jv 0) (jaC A5 jaN))) jaN))) (b1P rfl T.b_int (jaC (a3L (A7 d (U.mono (by omega)) rfl (jaC (jv 0) (jaC A5 jaN))) A5) jaN))))
 (A3 (B2 (i:=3) sc__law_rows.nd rfl (Or.inl rfl) (a3L (A7 d (U.mono (by omega)) rfl (jaC (jv 0) (jaC A5 jaN))) A5))
 (A3 (B2 (i:=4) sc__law_rows.nd rfl (Or.inl rfl) (J1 jaN))
 (A3 (N1 (J7 rfl T.b_range (jaC (jv 2) jaN)) (A8 (i:=5) sc__law_rows.nd rfl (Or.inl rfl))
 (A3 (a1U (i:=6) sc__law_rows.nd rfl (Or.inl rfl) (N:=["_law_j","_law_pot_here"]) (src:=[none,some 0]) (J7 rfl T.b_range (jaC (jv 1) jaN)) (by show B7 _ _=true;rfl) (by rfl) (by rfl)
 (λ_ _ _ _ _=>(A8 (i:=0) (show(["_law_j","_law_pot_here"]:List Str).Nodup by decide +kernel) rfl (Or.inl rfl))) (λ_ _ _ _ _=>D4) (λ_ _ _ _ _=>(a8l (A7 d (U.mono (by omega)) rfl (jaC (jv 1) (jaC A5 jaN))) A5)))
 (A3 (E8 (a4K (a2J (E2 K (jv 3)) (a0x (a8j (A7 d (U.mono (by omega)) rfl (jaC (jv 0) (jaC A5 jaN))) A5))))
 (A3 (B2 (i:=7) sc__law_rows.nd rfl (Or.inl rfl) (L0 (L0 (Z9 (A7 d (U.mono (by omega)) rfl (jaC (jv 0) (jaC (a3N A5 A5) jaN))) (a3N A5 A5)) (A7 d (U.mono (by omega)) rfl (jaC (jv 0) (jaC (a3N A5 A5) jaN)))) A5))
 (A4 (a4L (J2 K (J1 (jaC (jv 7) (jaC (b4W (jv 7)) jaN))) (A7 d (U.mono (by omega)) rfl (jaC (jv 0) (jaC A5 jaN)))) (b1L (jv 6) (A7 d (U.mono (by omega)) rfl (jaC (jv 0) (jaC (jv 1) jaN)))))))
 C8)
 (A4 (T0 (Y5 K (jv 4) (jaC (B8 K rfl T.b_tuple (jaC (jv 6) jaN)) jaN)))))))
 (A4 (B0 (B8 K rfl T.b_tuple (jaC (jv 4) jaN)))))))),?_⟩
  refine⟨by show 6<=sizeLine;omega,λp1 f9=>?_⟩;have s1:=(Same.refl H).upd (o:=.lst [V.int 0,.int 1,.int 1,.int 2,.int 2,.int 1]) f9;have e1:upd H p1 (.lst [V.int 0,.int 1,.int 1,.int 2,.int 2,.int 1]) p1=some (.lst [V.int 0,.int 1,.int 1,.int 2,.int 2,.int 1]):=A0;have c9:=hP.same s1;have e3:=I9 hP f9;generalize upd H p1 (.lst [V.int 0,.int 1,.int 1,.int 2,.int 2,.int 1])=H1 at s1 e1 c9;refine⟨_,rfl,a,b,_,6,rfl,c9,by omega,by decide,by decide,λr2 H2 d7 d9 g9 b1=>?_⟩;obtain⟨z,g4,f1,g2⟩:=b5k r2 d7 d9;refine⟨p1,_,_,_,rfl,rfl,SqL.of (b1 _ _ e3 e1),g4,?_⟩;refine⟨_,rfl,a,b,_,7,rfl,g9,by omega,by decide,by decide,λr3 H3 f2 f3 d6 h9=>?_⟩;refine⟨by show 2<=sizeLine;omega,λp4 i0=>?_⟩;have s4:=(Same.refl H3).upd (o:=.lst [V.int z,.int r3]) i0;have e4:upd H3 p4 (.lst [V.int z,.int r3]) p4=some (.lst [V.int z,.int r3]):=A0;have d1:=d6.same s4;have h4:=I9 d6 i0;have b2:=((s1.off.trans b1).trans h9).trans (s4.off (l:=[a,b]));generalize upd H3 p4 (.lst [V.int z,.int r3])=H4 at s4 e4 d1 b2;refine⟨_,rfl,a,b,_,8,rfl,d1,by omega,by decide,by decide,λr5 H5 h5 g6 h6 L=>?_⟩;refine⟨rfl,.inr ⟨_,rfl,?_⟩⟩;obtain⟨c1,d3,f6⟩:=two_at z r3 (decide (V.int r5=V.int 7));refine⟨p4,_,_,_,rfl,rfl,SqL.of (L _ _ h4 e4),d3,?_⟩;have L:=b2.trans L;dsimp only[A9];refine⟨_,rfl,a,b,_,8,rfl,h6,by omega,by decide,by decide,λr6 H6 h7 f4 a8 I=>?_⟩;refine⟨rfl,?_⟩;generalize decide (V.int r6=V.int 7)=a7;have I:=L.trans I;dsimp only[A9];refine⟨Nat.zero_le _,λpr d5=>?_⟩;have y:=I9 a8 d5;have g0:=a2x I a8 d5;have s7:=(Same.refl H6).upd (o:=.lst []) d5;have e7:upd H6 pr (.lst []) pr=some (.lst []):=A0;have d4:=a8.same s7;have b9:=a0Q (o:=.lst []) I g0;generalize upd H6 pr (.lst [])=H7 at s7 e7 d4 b9;dsimp only[A9];obtain⟨N,rfl⟩:∃N:Nat,c1=N:=⟨c1.toNat,by omega⟩;have hN:N<=6:=by omega
  refine⟨_,rfl,_,rfl,by omega,by omega,?_⟩;rw[Int.toNat_natCast];refine a1a (lo:=0) (n:=N) (λi σ H'=>Ex5 λo5 o6 o7 us rss=>An7 (σ=[some (.ref a),some (.int m),some (.int N),some (.bl a7),some (.ref pr),o5,o6,o7]) (PotAt H' a b (n+4+13*i)) (Off [a,b] H H') (H' pr=some (.lst us)) (Its H' us rss) (us.length=i) (Rs m rss)) ⟨none,none,none,[],[],rfl,d4.mono (by omega),b9,e7,.nil,rfl,λ_ z=>nomatch z⟩ ?_ ?_
  .rintro i σ H8 hi ⟨o5,o6,o7,us,rss,rfl,hP8,off8,e8,hI8,b0,hR8⟩;obtain⟨nn,d2⟩:∃nn,nn=n+4+13*i:=⟨_,rfl⟩;rw[<-d2]at hP8;have hb:nn+50<2 ^ 60:=by clear hz f1 g2 d7 d9 f2 f3 h5 g6 h7 f4 d3 f6;omega
   have en:HEq (nn+13) (n+4+13*(i+1)):=heq_of_eq (by rw[d2,Nat.mul_add];rfl);have k5:us.length+5<sizeLine:=by clear hn hb en;omega
   replace b0:=heq_of_eq b0;clear d2 hn hP c9 g9 d6 d1 h6 a8 d4 d7 d9 f2 f3 h5 g6 h7 f4 g4 f1 g2 d3 f6;refine⟨_,rfl,_,rfl,by omega,by omega,?_⟩;rw[Int.toNat_natCast];refine a8V (caps:=[some (.ref a)]) (c:=1) (λz => -3<=z/\z<=3) (by omega) rfl hP8 (λi' H' N k9 hP' q=>⟨_,rfl,a,b,_,7,rfl,hP',by omega,by decide,by decide,λr j0 h0 h1 g1 i5=>⟨_,_,rfl,rfl,q (r-3) j0 ⟨by omega,by omega⟩ g1 i5⟩⟩) ?_;intro H9 pw xs S i3 c5 W a6;replace S:=heq_of_eq S;dsimp only[A9];have R:=I9 c5 a6;have e0:pr∉[a,b]:=y;have e9:=W _ _ e0 e8;have j3:=T4 hI8 hP8 W;have i8:pr≠pw:=A6 e9 a6;have a2:=off8.trans W;have e2:=a2x a2 c5 a6;have a9:=(Same.refl H9).upd (o:=.lst (xs.map V.int)) a6;have a1:upd H9 pw (.lst (xs.map V.int)) pw=some (.lst (xs.map V.int)):=A0;have d8:=a9 _ _ e9;have a5:=j3.same a9;have M:=c5.same a9;have D:=a0Q (o:=.lst (xs.map V.int)) a2 e2;generalize upd H9 pw (.lst (xs.map V.int))=i4 at a9 a1 d8 a5 M D;refine X1 (λσ H'=>Ex2 λo7 ys=>An8 (σ=[some (.ref a),some (.int m),some (.int N),some (.bl a7),some (.ref pr),some (.int (0+(i:Int))),some (.ref pw),o7]) (ys.length=m) (Sm ys) (H' pw=some (.lst (ys.map V.int))) (PotAt H' a b (nn+13)) (Off [a,b] H H') (H' pr=some (.lst us)) (Its H' us rss)) ?fin λfin=>?_
   case fin =>
    clear hb hN hi hm1 hm8;rintro σ X ⟨o7,ys,rfl,i2,i6,ew,C,j,Z,J⟩;refine⟨_,rfl,.inl ⟨rfl,_,SqL.of Z⟩,_,rfl,pw,_,rfl,.inl ⟨SqL.of ew,λq hq=>?_⟩⟩;have Y:=(Same.refl X).upd (o:=.tup (ys.map V.int)) hq;have d0:=Y _ _ Z;have b7:upd X q (.tup (ys.map V.int)) q=some (.tup (ys.map V.int)):=A0;have B:=C.same Y;have c4:=J.same Y;have u:=j.trans (Y.off (l:=[a,b]));generalize upd X q (.tup (ys.map V.int))=i9 at Y d0 b7 B c4 u;refine⟨pr,_,_,rfl,rfl,d0,by omega,?_⟩;refine⟨_,_,_,us++[.ref q],rss++[ys],rfl,eq_of_heq en ▸ a4B B y,a0Q u g0,A0,Y6 (c4.snoc ⟨q,rfl,b7⟩) d0 (λ_ z=>by cases z),by simp[eq_of_heq b0],λr U=>?_⟩;rcases List.mem_append.mp U with z|z
    .exact hR8 r z
    .rw[List.mem_singleton.mp z];exact⟨i2,i6⟩
   have a4:Sm xs:=λz hz=>by have:=i3 z hz;omega
   have stay:=fin _ i4 ⟨o7,xs,rfl,eq_of_heq S,a4,a1,M.mono (by omega),D,d8,a5⟩;refine⟨_,rfl,a7,rfl,?_⟩;cases a7 with
   |false=>exact D6 (D6 stay)
   |true =>
    refine F0 ⟨_,rfl,a,b,_,2,rfl,M,by omega,by decide,by decide,λl1 X j9 j5 C j=>⟨rfl,_,rfl,?_⟩⟩;have c0:=j _ _ R a1;have Z:=j _ _ y d8;have J:=T4 a5 M j;have j:=D.trans j;refine a3n (λe=>?_) (λe=>fin _ X ⟨_,xs,rfl,eq_of_heq S,a4,c0,C.mono (by omega),j,Z,J⟩);refine⟨_,rfl,_,_,rfl,rfl,⟨by decide,by decide,by decide⟩,a,b,_,_,rfl,C,by omega,by decide,by decide,λk6 i9 j7 f5 B u=>?_⟩;refine⟨_,_,rfl,rfl,⟨by decide,by decide,by decide⟩,_,_,rfl,rfl,.inr ⟨by decide,by decide⟩,?_⟩;refine⟨_,rfl,_,_,rfl,rfl,⟨by decide,by decide,by decide⟩,a,b,_,_,rfl,B,by omega,by decide,by decide,λk4 c6 j8 f7 b8 x=>?_⟩;refine⟨_,_,rfl,rfl,_,_,rfl,rfl,?_⟩;have e6:(10:Int) ^ Int.toNat 6=1000000:=by decide
    rw[e6]at f5 f7;dsimp only[A9];rw[e6];generalize hG:k6*1000000+k4+1=G;have k2:0<=G/\G<2 ^ 62:=by omega
    have g7:=x _ _ R (u _ _ R c0);have i7:=x _ _ y (u _ _ y Z);have g5:=T4 (T4 J C u) B x;have x:=(j.trans u).trans x;refine⟨_,rfl,_,rfl,_,rfl,by show 2<=sizeLine;omega,λc8 c3=>?_⟩;have c7:=I9 b8 c3;have O:=(Same.refl c6).upd (o:=.lst [V.int G,.int (-G)]) c3;have i1:upd c6 c8 (.lst [V.int G,.int (-G)]) c8=some (.lst [V.int G,.int (-G)]):=A0;have a0:=b8.same O;have b3:=O _ _ g7;have b6:=O _ _ i7;have b5:=g5.same O;have a3:=x.trans (O.off (l:=[a,b]));dsimp only;generalize upd c6 c8 (.lst [V.int G,.int (-G)])=k3 at O i1 a0 b3 b6 b5 a3;refine⟨_,rfl,a,b,_,2,rfl,a0,by omega,by decide,by decide,λk7 k8 e5 g3 b4 p=>?_⟩;obtain⟨g,j4,j1⟩:=two_at' G (-G) k7 e5 g3;refine⟨c8,_,_,_,rfl,rfl,SqL.of (p _ _ c7 i1),j4,?_⟩;have f0:=p _ _ R b3;have f8:=p _ _ y b6;have h8:=T4 b5 a0 p;have p:=a3.trans p;refine⟨_,rfl,_,rfl,_,rfl,a,b,_,_,rfl,b4,by omega,by omega,by omega,λj2 k1 k0 j6 h2 v=>?_⟩;obtain⟨t,rfl⟩:∃t:Nat,j2=t:=⟨j2.toNat,by omega⟩;have c2:=v _ _ R f0;have g8:=v _ _ y f8;have h3:=T4 h8 b4 v;have v:=p.trans v;refine⟨pw,_,_,t,rfl,rfl,c2,b7B (by rw[List.length_map,eq_of_heq S];omega),?_⟩;refine fin _ _ ⟨_,xs.set t g,rfl,by rw[List.length_set];exact eq_of_heq S,λz hz=>?_,by rw[A0,List.map_set],(a4B h2 R).mono (by omega),a0Q v e2,by rw[A2 i8];exact g8,Y6 h3 c2 (λ_ z=>by cases z)⟩;rcases a6Y hz with q|q
    .exact a4 z q
    .rw[q];rcases j1 with rfl|rfl<;>omega
  .rintro σ H8 ⟨o5,o6,o7,us,rss,rfl,hP8,off8,e8,hI8,b0,hR8⟩;refine⟨_,rfl,pr,_,rfl,.inl ⟨SqL.of e8,λq hq=>?_⟩⟩;have s9:=(Same.refl H8).upd (o:=.tup us) hq;exact k q us rss _ A0 (hI8.same s9) (by omega) hR8 ((hP8.same s9).mono (by omega)) (off8.trans s9.off)
def a7w(cs:List (Option Int)):Prop:=∀c∈cs,∀z,c=some z->0<=z
inductive IspCaps(vs:List V)(H:Hp)(Q:VK)(E:XK):Prop
 |mk (a b:Addr) (n m:Nat) (mi:Int) (_:vs=[.ref a,.int mi]) (_:mi=m) (_:1<=m) (_:m<=8) (_:PotAt H a b n) (_:n+1000<2 ^ 60) (_:∀q cs H',H' q=some (.tup (cs.map cV))->cs.length=m->a7w cs->PotAt H' a b (n+25)->Off [a,b] H H'->Q (.ref q) H'):IspCaps  vs H Q E
def b0x:Sp:=λvs H Q E=>IspCaps  vs H Q E
theorem sc__law_caps:FnScope ["_law_pot_here","_law_width_here","_law_open_here","_law_caps_here","_law_j","_law_cap"] ["_law_pot_here","_law_width_here"] (A1 O6):=⟨rfl,rfl,rfl,by decide +kernel,rfl,by decide +kernel,by decide +kernel⟩
theorem b3Q(F:FunAt K mg "_law_caps" O6 ["_law_pot_here","_law_width_here"])(T:Tx mg)(d:Ok P w K mg base "_law_take" 1 ["_law_pot_here","_law_many"] a0M):Ok P w K mg base "_law_caps" 2 ["_law_pot_here","_law_width_here"] b0x:=by
 refine F.okJ sc__law_caps (λvs H Q E h=>?_) (λb1 f A outer s H vs Q E R h=>?_)
 .obtain⟨a,b,n,m,mi,rfl,_⟩:=h;rfl
 .obtain⟨a,b,n,m,_,rfl,rfl,hm1,hm8,hP,hn,k⟩:=h;have hz:(3000:Nat)<=sizeLine:=by rw[sizeLine_eq];decide
  refine⟨_,(A3 (B2 (i:=2) sc__law_caps.nd rfl (Or.inl rfl) (A7 d (R.mono (by omega)) rfl (jaC (jv 0) (jaC A5 jaN))))
 (A3 (B2 (i:=3) sc__law_caps.nd rfl (Or.inl rfl) (J1 jaN))
 (A3 (N1 (J7 rfl T.b_range (jaC (jv 1) jaN)) (A8 (i:=4) sc__law_caps.nd rfl (Or.inl rfl))
 (A3 (B2 (i:=5) sc__law_caps.nd rfl (Or.inl rfl) (A7 d (R.mono (by omega)) rfl (jaC (jv 0) (jaC (J2 K (J1 (jaC A5 (jaC A5 jaN))) (A7 d (R.mono (by omega)) rfl (jaC (jv 0) (jaC A5 jaN)))) jaN))))
 (A4 (E8 (b4U (A7 d (R.mono (by omega)) rfl (jaC (jv 0) (jaC A5 jaN))) (jv 2))
 (A4 (T0 (Y5 K (jv 3) (jaC a2L jaN))))
 (A4 (T0 (Y5 K (jv 3) (jaC (jv 5) jaN))))))))
 (A4 (B0 (B8 K rfl T.b_tuple (jaC (jv 3) jaN))))))),?_⟩
  refine⟨_,rfl,a,b,_,3,rfl,hP,by omega,by decide,by decide,λr1 H1 a6 b0 B y=>?_⟩;dsimp only[A9];refine⟨Nat.zero_le _,λt D=>?_⟩;have p:=I9 B D;have G:=a2x y B D;have s2:=(Same.refl H1).upd (o:=.lst []) D;have e2:upd H1 t (.lst []) t=some (.lst []):=A0;have N:=B.same s2;have v:=a0Q (o:=.lst []) y G;generalize upd H1 t (.lst [])=H2 at s2 e2 N v;dsimp only[A9];refine⟨_,rfl,_,rfl,by omega,by omega,?_⟩;rw[Int.toNat_natCast];refine a1a (lo:=0) (n:=m) (λi σ H'=>Ex3 λZ L cs=>An6 (σ=[some (.ref a),some (.int m),some (.int r1),some (.ref t),Z,L]) (PotAt H' a b (n+1+3*i)) (Off [a,b] H H') (H' t=some (.lst (cs.map cV))) (cs.length=i) (a7w cs)) ⟨none,none,[],rfl,N,v,e2,rfl,λ_ z=>nomatch z⟩ ?_ ?_
  .rintro i σ H3 hi ⟨Z,L,cs,rfl,hP3,off3,e3,hcl,hok⟩;refine⟨_,rfl,by show 2<=sizeLine;omega,λp4 O=>?_⟩;have S:=(Same.refl H3).upd (o:=.lst [V.int 6,.int 2]) O;have e4:upd H3 p4 (.lst [V.int 6,.int 2]) p4=some (.lst [V.int 6,.int 2]):=A0;have J:=hP3.same S;have I:=I9 hP3 O;have M:=S _ _ e3;have x:=off3.trans (S.off (l:=[a,b]));generalize upd H3 p4 (.lst [V.int 6,.int 2])=H4 at S e4 J M x;refine⟨_,rfl,a,b,_,2,rfl,J,by omega,by decide,by decide,λr5 H5 Y a0 a1 r=>?_⟩;obtain⟨z,W,a8⟩:=two_at' 6 2 r5 Y a0;refine⟨p4,_,_,_,rfl,rfl,SqL.of (r _ _ I e4),W,?_⟩;refine⟨a,b,_,z,rfl,a1,by omega,by omega,by omega,λr6 H6 a2 a7 X j=>?_⟩;have a4:=j _ _ p (r _ _ p M);have j:=(x.trans r).trans j;dsimp only[A9];refine⟨_,rfl,a,b,_,3,rfl,X,by omega,by decide,by decide,λr7 H7 a9 a5 a3 g=>?_⟩;have u:=g _ _ p a4;have g:=j.trans g;have put:∀c:Option Int,(∀z,c=some z->0<=z)->(λσ H'=>Ex3 λZ L C=>An6 (σ=[some (V.ref a),some (.int m),some (.int r1),some (.ref t),Z,L]) (PotAt H' a b (n+1+3*(i+1))) (Off [a,b] H H') (H' t=some (.lst (C.map cV))) (C.length=i+1) (a7w C)) [some (V.ref a),some (.int m),some (.int r1),some (.ref t),some (.int (0+(i:Int))),some (.int r6)] (upd H7 t (.lst (cs.map cV++[cV c]))):=λc hc=>by
    refine⟨_,_,cs++[c],rfl,(a4B a3 p).mono (by omega),a0Q g G,by rw[A0,List.map_append];rfl,by simp[hcl],λc' U=>?_⟩;rcases List.mem_append.mp U with q|q
    .exact hok c' q
    .rw[List.mem_singleton.mp q];exact hc
   refine⟨_,rfl,_,_,rfl,rfl,_,rfl,a3n (λe=>?_) (λe=>?_)⟩
   .refine⟨_,rfl,.inl ⟨rfl,_,SqL.of u⟩,t,_,_,rfl,rfl,u,by rw[List.length_map];omega,?_⟩;exact put none (λ_ z=>nomatch z)
   .refine⟨_,rfl,.inl ⟨rfl,_,SqL.of u⟩,_,rfl,t,_,_,rfl,rfl,u,by rw[List.length_map];omega,?_⟩;exact put (some r6) (λz e=>by cases e;exact a2)
  .rintro σ H3 ⟨Z,L,cs,rfl,hP3,off3,e3,hcl,hok⟩;refine⟨_,rfl,t,_,rfl,.inl ⟨SqL.of e3,λq hq=>?_⟩⟩;have s9:=(Same.refl H3).upd (o:=.tup (cs.map cV)) hq;exact k q cs _ A0 hcl hok ((hP3.same s9).mono (by omega)) (off3.trans s9.off)
inductive IspFound(vs:List V)(H:Hp)(Q:VK)(E:XK):Prop
 |mk (ra ca:Addr) (rss:LLI) (cs:List (Option Int)) (most:Nat) (mi:Int) (_:vs=[.ref ra,.ref ca,.int mi]) (_:mi=most) (_:SyAt H ra ca rss cs) (_:(most+1)*cs.length+200<=100000) (_:(∀H',Same H H'->b6U rss cs most->Q .non H')) (_:∀q t pp zs tss ws F W k H',Same H H'->H' q=some (.tup [.ref t,.ref pp])->H' t=some (.tup zs)->Its H' zs tss->tss.Perm F->C9 tss->H' pp=some (.tup ws)->Its H' ws W->Wk rss cs F W [] k->W.length<=most->Q (.ref q) H'):IspFound  vs H Q E
def a7R:Sp:=λvs H Q E=>IspFound  vs H Q E
theorem sc__law_found:FnScope ["_law_rows_here","_law_caps_here","_law_most","_law_found_here"] ["_law_rows_here","_law_caps_here","_law_most"] (A1 M1):=⟨rfl,rfl,rfl,by decide +kernel,rfl,by decide +kernel,by decide +kernel⟩
theorem b1t{a:Addr}(u:FunAt K mg "_law_found" M1 ["_law_rows_here","_law_caps_here","_law_most"])(T:Tx mg)(d:OkE P w K mg base "least" 7 ["rows","caps","most"] (a7P a))(c:mg "TooMany"=some (.ref a))(b:ClsX K a []):Ok P w K mg base "_law_found" 8 ["_law_rows_here","_law_caps_here","_law_most"] a7R:=by
 refine u.okJ sc__law_found (λvs H Q E h=>?_) (λC f A outer s H vs Q E n h=>?_)
 .obtain⟨ra,ca,rss,cs,most,mi,rfl,_⟩:=h;rfl
 .obtain⟨ra,ca,rss,cs,most,_,rfl,rfl,Y,hbig,kn,kq⟩:=h;refine⟨_,(A3 (B2 (i:=3) sc__law_found.nd rfl (Or.inl rfl) a2L)
 (A3 (b1H K (b6k (i:=3) d (n.mono (by omega)) rfl sc__law_found.nd rfl (Or.inl rfl) (jaC (jv 0) (jaC (jv 1) (jaC (jv 2) jaN)))) rfl c b (λ_=>(A4 (B2 (i:=3) sc__law_found.nd rfl (Or.inl rfl) a2L))))
 (A4 (B0 (jv 3))))),?_⟩
  refine⟨_,rfl,_,rfl,_,rfl,ra,ca,rss,cs,most,_,rfl,rfl,Y,hbig,λq t o zs tss v r W k H' s' B y hI j l g m z e=>?_,λH' s' x=>⟨a,rfl,rfl,λp hp=>?_⟩⟩
  .exact⟨_,rfl,kq q t o zs tss v r W k H' s' B y hI j l g m z e⟩
  .exact⟨_,rfl,kn _ (s'.upd hp) x⟩
end
structure Pap(rss:LLI)(cs:List (Option Int))(F W L:LLI):Prop where
 wi:∀v∈W,Wi cs v=true
 fst:∀u∈J8 cs,u∈W
 an:∀v∈W,Ans rss v=true->v∈F
 nx:∀v∈W,v∉L->∀j∈StP rss cs v,bump v j∈W∨∃f∈F,Bel f (bump v j)=true
theorem Wk.pap{rss:LLI}{cs:List (Option Int)}{F W L:LLI}{k:Nat}(hR:∀r∈rss,r.length=cs.length)(h:Wk rss cs F W L k):Pap rss cs F W L:=by
 induction h with
 |@one L ri nd h=>exact⟨(Wk.one ri nd h).ok hR |>.wi,λu c=>(h u).mpr c,λv a e=>List.mem_filter.mpr ⟨a,e⟩,λv a d=>absurd a d⟩
 |@more F W L L' k h ne ri nd hm ih =>
  have o:=(Wk.more h ne ri nd hm).ok hR;refine⟨λv a=>?_,λu c=>List.mem_append_left _ (ih.fst u c),λv a e=>?_,λv a d j g=>?_⟩
  .rcases List.mem_append.mp a with z|z
   .exact ih.wi v z
   .exact o.wi v z
  .rcases List.mem_append.mp a with z|z
   .exact List.mem_append_left _ (ih.an v z e)
   .exact List.mem_append_right _ (List.mem_filter.mpr ⟨z,e⟩)
  .have hvW:v∈W:=(List.mem_append.mp a).resolve_right d;by_cases hL:v∈L
   .cases e:Bar F (bump v j) j with
    |true =>
     unfold Bar at e;obtain⟨f,hf,b⟩:=List.any_eq_true.mp e;rw[Bool.and_eq_true]at b;exact .inr ⟨f,List.mem_append_left _ hf,b.2⟩
    |false=>exact .inl (List.mem_append_right _ ((hm _).mpr ⟨v,hL,j,g,rfl,e⟩))
   .rcases ih.nx v hvW hL j g with z|⟨f,hf,hb⟩
    .exact .inl (List.mem_append_left _ z)
    .exact .inr ⟨f,List.mem_append_left _ hf,hb⟩
noncomputable def Lst(rss:LLI)(v:List Int):Bool:=!(rss.any λu=>!decide (u=v) && Bel u v)
structure Srt(rss srt:LLI):Prop where
 ri:C9 srt
 nd:srt.Nodup
 mem:∀r,r∈srt↔r∈rss
theorem Srt.eq{rss a b:LLI}(h:Srt rss a)(g:Srt rss b):a=b:=a2q h.ri g.ri h.nd g.nd λv=>(h.mem v).trans (g.mem v).symm
theorem a9q{rss a:LLI}(h:∀r,r∈rss↔r∈a)(v:List Int):Lst rss v=Lst a v:=by
 unfold Lst;congr 1;rw[Bool.eq_iff_iff,List.any_eq_true,List.any_eq_true];exact⟨λ⟨u,b,e⟩=>⟨u,(h u).mp b,e⟩,λ⟨u,b,e⟩=>⟨u,(h u).mpr b,e⟩⟩
theorem a8x:∀{u v:List Int},u.length=v.length->Bel u v=true->u≠v->HT.lexLt v u=false
 |[],[],_,_,ne=>absurd rfl ne
 |[],_::_,h,_,_=>by cases h
 |_::_,[],h,_,_=>by cases h
 |x::u,y::v,h,hb,ne=>by
  unfold Bel at hb;rw[List.zipWith_cons_cons,List.all_cons,Bool.and_eq_true]at hb;have h1:x<=y:=of_decide_eq_true hb.1;by_cases e:x=y
  .subst e;have ih:=a8x (u:=u) (v:=v) (by simpa using h) hb.2 λz=>ne (by rw[z]);simp[HT.lexLt,ih]
  .have:¬y<x:=by omega
   have a:¬y=x:=λz=>e z.symm;simp[HT.lexLt,this,a]
theorem a7X{α:Type}{m:List α->Prop}(l:List α)(nil:m [])(snoc:∀(l:List α) (v:α),m l->m (l++[v])):m l:=by
 have:∀r:List α,m r.reverse:=λr=>by
  induction r with
  |nil=>exact nil
  |cons x r ih=>rw[List.reverse_cons];exact snoc _ x ih
 have:=this l.reverse;rwa[List.reverse_reverse]at this
noncomputable def LO(l:LLI):LLI:=l.foldl (λacc v=>if acc.any (λu=>Bel u v)then acc else acc++[v]) []
theorem a5a(l:LLI)(v:List Int):LO (l++[v])=if (LO l).any (λu=>Bel u v)then LO l else LO l++[v]:=by
 unfold LO;rw[List.foldl_append];rfl
theorem b2v(v:List Int):Bel v v=true:=(C1 rfl).mpr (Under.refl v)
theorem a9X{a b c:List Int}(h1:a.length=b.length)(h2:b.length=c.length)(d:Bel a b=true)(e:Bel b c=true):Bel a c=true :=
 (C1 (h1.trans h2)).mpr (((C1 h1).mp d).trans ((C1 h2).mp e))
theorem a8z{n:Nat}:∀(l:LLI),(∀r∈l,r.length=n)->(∀x∈LO l,x∈l)/\∀u∈l,∃x∈LO l,Bel x u=true:=by
 intro l;induction l using a7X with
 |nil=>intro _;exact⟨λ_ z=>z,λ_ z=>nomatch z⟩
 |snoc l v ih =>
  intro hl;obtain⟨c,d⟩:=ih λr f=>hl r (List.mem_append_left _ f);rw[a5a];cases e:(LO l).any (λu=>Bel u v)with
  |true =>
   rw[if_pos rfl];refine⟨λx a=>List.mem_append_left _ (c x a),λu b=>?_⟩;rcases List.mem_append.mp b with z|z
   .exact d u z
   .rw[List.mem_singleton.mp z];exact List.any_eq_true.mp e
  |false =>
   rw[if_neg (by decide)];refine⟨λx a=>?_,λu b=>?_⟩
   .rcases List.mem_append.mp a with z|z
    .exact List.mem_append_left _ (c x z)
    .exact List.mem_append_right _ z
   .rcases List.mem_append.mp b with z|z
    .obtain⟨x,h1,h2⟩:=d u z;exact⟨x,List.mem_append_left _ h1,h2⟩
    .rw[List.mem_singleton.mp z];exact⟨v,List.mem_append_right _ List.mem_cons_self,b2v v⟩
theorem a9Y{n:Nat}(a:LLI)(hl:∀r∈a,r.length=n)(ri:C9 a)(nd:a.Nodup):∀(l rest:LLI),a=l++rest->LO l=l.filter (λv=>Lst a v):=by
 intro l;induction l using a7X with
 |nil=>intro _ _;rfl
 |snoc l v ih =>
  intro rest e;have c:a=l++(v::rest):=by rw[e,List.append_assoc];rfl
  have j:v∈a:=by rw[c];simp
  have b:∀r∈l,r.length=n:=λr k=>hl r (by rw[c];exact List.mem_append_left _ k);obtain⟨f,m⟩:=a8z l b;rw[a5a,List.filter_append,<-ih _ c];have key:(LO l).any (λu=>Bel u v)=!Lst a v:=by
   rw[Bool.eq_iff_iff];unfold Lst;rw[Bool.not_not,List.any_eq_true,List.any_eq_true];constructor
   .rintro⟨u,hu,hb⟩;refine⟨u,by rw[c];exact List.mem_append_left _ (f u hu),?_⟩;have h:u≠v:=λz=>by
     rw[c]at nd;exact(List.nodup_append.mp nd).2.2 u (f u hu) v List.mem_cons_self z
    rw[hb,decide_eq_false h];rfl
   .rintro⟨u,hu,hb⟩;rw[Bool.and_eq_true,Bool.not_eq_true',decide_eq_false_iff_not]at hb;have d:u∈l:=by
     rw[c]at hu;rcases List.mem_append.mp hu with z|z
     .exact z
     .rcases List.mem_cons.mp z with q|q
      .exact absurd q hb.1
      .exfalso;have g:HT.lexLt u v=false:=by
        rw[c]at ri;have:=(List.pairwise_append.mp ri).2.1;exact(List.pairwise_cons.mp this).1 u q
       have h2:=a8x (by rw[hl u (by rw[c];exact List.mem_append_right _ z),hl v j]) hb.2 hb.1;exact hb.1 (M8 u v g h2)
    obtain⟨x,h1,h2⟩:=m u d;exact⟨x,h1,a9X (by rw[b x (f x h1),b u d]) (by rw[b u d,hl v j]) h2 hb.2⟩
  rw[key];cases i:Lst a v with
  |true=>rw[if_neg (by decide),List.filter_cons_of_pos (p:=λv=>Lst a v) i];rfl
  |false=>rw[if_pos (by decide),List.filter_cons_of_neg (p:=λv=>Lst a v) (by rw[i];decide)];simp
section
variable {P:Program}{w:World}{K:PySem.W.Frag}{mg:Str->Option Value}{base:Heap}
inductive IspAboveL(vs:List V)(H:Hp)(Q:VK)(E:XK):Prop
 |mk (l:Addr) (y:V) (fs:List V) (fss:LLI) (ys:List Int) (_:vs=[.ref l,y]) (_:H l=some (.lst fs)) (_:Its H fs fss) (_:IT H y ys) (_:(∀f∈fss,f.length<=1000)) (_:∀H',Same H H'->Q (.bl (fss.any λf=>Bel f ys)) H'):IspAboveL  vs H Q E
def a5w:Sp:=λvs H Q E=>IspAboveL  vs H Q E
inductive IspAboveT(vs:List V)(H:Hp)(Q:VK)(E:XK):Prop
 |mk (l:Addr) (y:V) (fs:List V) (fss:LLI) (ys:List Int) (_:vs=[.ref l,y]) (_:H l=some (.tup fs)) (_:Its H fs fss) (_:IT H y ys) (_:(∀f∈fss,f.length<=1000)) (_:∀H',Same H H'->Q (.bl (fss.any λf=>Bel f ys)) H'):IspAboveT  vs H Q E
def a2i:Sp:=λvs H Q E=>IspAboveT  vs H Q E
theorem sc_above_any:FnScope ["some","one","other"] ["some","one"] (A1 K8):=⟨rfl,rfl,rfl,by decide +kernel,rfl,by decide +kernel,by decide +kernel⟩
theorem a3m(F:FunAt K mg "above_any" K8 ["some","one"])(T:Tx mg)(b:Ok P w K mg base "below" 1 ["one","other"] a1K):Ok P w K mg base "above_any" 2 ["some","one"] a5w:=by
 refine F.okJ sc_above_any (λvs H Q E h=>?_) (λm f A outer s H vs Q E c h=>?_)
 .obtain⟨l,y,fs,fss,ys,rfl,_⟩:=h;rfl
 .obtain⟨l,y,fs,fss,ys,rfl,hl,hI,hy,hL,k⟩:=h;refine⟨_,(A3 (N1 (E6 K (jv 0)) (A8 (i:=2) sc_above_any.nd rfl (Or.inl rfl))
 (A4 (E8 (E2 K (A7 b (c.mono (by omega)) rfl (jaC (jv 2) (jaC (jv 1) jaN))))
 (A4 (B0 N3))
 C8)))
 (A4 (B0 N3))),?_⟩
  refine⟨_,rfl,l,rfl,⟨_,SqL.of hl⟩,?_⟩;refine N4 (K:=K) (a:=l) (xs:=fs) (λi σ H'=>Ex1 λo=>An3 (σ=[some (.ref l),some y,o]) (Same H H') (((fss.take i).any λf=>Bel f ys)=false)) ⟨none,rfl,Same.refl H,rfl⟩ (λi σ H' _ h=>by obtain⟨_,_,s',_⟩:=h;exact SqL.of (s' _ _ hl)) ?_ ?_
  .rintro i x σ H' hx ⟨o,rfl,s',hB⟩;obtain⟨r,c,d,g⟩:=hI.mem hx;have j:((fss.take (i+1)).any λf=>Bel f ys)=Bel r ys:=by
    rw[List.take_add_one,d,List.any_append,hB];simp
   dsimp only[A9];refine⟨_,rfl,_,rfl,x,y,r,ys,rfl,g.same s',hy.same s',hL r c,λH2 s2=>⟨_,rfl,?_⟩⟩;cases e:Bel r ys with
   |false =>
    rw[e]at j;exact D6 ⟨_,rfl,s'.trans s2,j⟩
   |true =>
    refine F0 ?_;have:=k H2 (s'.trans s2);rw[show(fss.any λf=>Bel f ys)=true from List.any_eq_true.mpr ⟨r,c,e⟩]at this;exact this
  .rintro σ H' ⟨o,rfl,s',hB⟩;rw[hI.1,List.take_length]at hB;have:=k H' s';rw[hB]at this;exact this
theorem a3l(F:FunAt K mg "above_any" K8 ["some","one"])(T:Tx mg)(b:Ok P w K mg base "below" 1 ["one","other"] a1K):Ok P w K mg base "above_any" 2 ["some","one"] a2i:=by
 refine F.okJ sc_above_any (λvs H Q E h=>?_) (λm f A outer s H vs Q E c h=>?_)
 .obtain⟨l,y,fs,fss,ys,rfl,_⟩:=h;rfl
 .obtain⟨l,y,fs,fss,ys,rfl,hl,hI,hy,hL,k⟩:=h;refine⟨_,(A3 (N1 (L1 K (jv 0)) (A8 (i:=2) sc_above_any.nd rfl (Or.inl rfl))
 (A4 (E8 (E2 K (A7 b (c.mono (by omega)) rfl (jaC (jv 2) (jaC (jv 1) jaN))))
 (A4 (B0 N3))
 C8)))
 (A4 (B0 N3))),?_⟩
  refine⟨_,rfl,l,rfl,⟨_,SqT.of hl⟩,?_⟩;refine b4j (K:=K) (a:=l) (xs:=fs) (λi σ H'=>Ex1 λo=>An3 (σ=[some (.ref l),some y,o]) (Same H H') (((fss.take i).any λf=>Bel f ys)=false)) ⟨none,rfl,Same.refl H,rfl⟩ (λi σ H' _ h=>by obtain⟨_,_,s',_⟩:=h;exact SqT.of (s' _ _ hl)) ?_ ?_
  .rintro i x σ H' hx ⟨o,rfl,s',hB⟩;obtain⟨r,c,d,g⟩:=hI.mem hx;have j:((fss.take (i+1)).any λf=>Bel f ys)=Bel r ys:=by
    rw[List.take_add_one,d,List.any_append,hB];simp
   dsimp only[A9];refine⟨_,rfl,_,rfl,x,y,r,ys,rfl,g.same s',hy.same s',hL r c,λH2 s2=>⟨_,rfl,?_⟩⟩;cases e:Bel r ys with
   |false =>
    rw[e]at j;exact D6 ⟨_,rfl,s'.trans s2,j⟩
   |true =>
    refine F0 ?_;have:=k H2 (s'.trans s2);rw[show(fss.any λf=>Bel f ys)=true from List.any_eq_true.mpr ⟨r,c,e⟩]at this;exact this
  .rintro σ H' ⟨o,rfl,s',hB⟩;rw[hI.1,List.take_length]at hB;have:=k H' s';rw[hB]at this;exact this
inductive IspLeastOf(vs:List V)(H:Hp)(Q:VK)(E:XK):Prop
 |mk (p:Addr) (us:List V) (rss:LLI) (n:Nat) (_:vs=[.ref p]) (_:H p=some (.tup us)) (_:Its H us rss) (_:us.length<=1000) (_:1<=n) (_:n<=1000) (_:(∀r∈rss,r.length=n)) (_:∀q zs srt H',Same H H'->Srt rss srt->H' q=some (.tup zs)->Its H' zs (srt.filter λv=>Lst rss v)->Q (.ref q) H'):IspLeastOf  vs H Q E
def a3A:Sp:=λvs H Q E=>IspLeastOf  vs H Q E
theorem sc_least_of:FnScope ["some","found","one"] ["some"] (A1 S0):=⟨rfl,rfl,rfl,by decide +kernel,rfl,by decide +kernel,by decide +kernel⟩
theorem a5K(F:FunAt K mg "least_of" S0 ["some"])(T:Tx mg)(c:Ok P w K mg base "above_any" 2 ["some","one"] a5w):Ok P w K mg base "least_of" 3 ["some"] a3A:=by
 refine F.okJ sc_least_of (λvs H Q E h=>?_) (λa5 f A outer s H vs Q E g h=>?_)
 .obtain⟨p,us,rss,n,rfl,_⟩:=h;rfl
 .obtain⟨p,us,rss,n,rfl,hp,hI,hl,hn1,hn2,hR,k⟩:=h;have hu:=g.u60;have hz:(3000:Nat)<=sizeLine:=by rw[sizeLine_eq];decide
  refine⟨_,(A3 (B2 (i:=1) sc_least_of.nd rfl (Or.inl rfl) (J1 jaN))
 (A3 (N1 (E6 K (b1N P w rfl T.b_sorted (jaC (b3Z K P w hu rfl T.b_set (jaC (jv 0) jaN)) jaN))) (A8 (i:=2) sc_least_of.nd rfl (Or.inl rfl))
 (A4 (E8 (V8 (E2 K (A7 c (g.mono (by omega)) rfl (jaC (jv 1) (jaC (jv 2) jaN)))))
 (A4 (T0 (Y5 K (jv 1) (jaC (jv 2) jaN))))
 C8)))
 (A4 (B0 (B8 K rfl T.b_tuple (jaC (jv 1) jaN)))))),?_⟩
  refine⟨Nat.zero_le _,λm M=>?_⟩;have s1:=(Same.refl H).upd (o:=.lst []) M;have e1:upd H m (.lst []) m=some (.lst []):=A0;generalize upd H m (.lst [])=H1 at s1 e1;dsimp only[A9];refine⟨_,rfl,true,p,us,rss,rfl,SqT.of (s1 _ _ hp),hI.same s1,hl,λa xs ha N j W=>?_⟩;have s2:=s1.upd (o:=a4q P w a xs) ha;have y:=(Same.refl H1).upd (o:=a4q P w a xs) ha;have R:upd H1 a (a4q P w a xs) a=some (a4q P w a xs):=A0;generalize upd H1 a (a4q P w a xs)=H2 at s2 y R;have X:xs.length<=1000:=by
   have:=Tab.nodup_le (xs.map (·.1)) rss N λr g=>(j r).mp g;rw[List.length_map,<-hI.1]at this;omega
  refine⟨a,xs,rfl,R,λx I=>(W x I).same y,λx I=>by rw[hR x.1 ((j x.1).mp (List.mem_map.mpr ⟨x,I,rfl⟩))];exact hn1,X,λl zs b B d L Z=>?_⟩;have S:Srt rss b:=⟨Z,L.symm.nodup N,λr=>(L.mem_iff).trans (j r)⟩;have s3:=s2.upd (o:=.lst zs) B;have U:upd H2 l (.lst zs) l=some (.lst zs):=A0;have C:upd H2 l (.lst zs) m=some (.lst []):=Q3 (y _ _ e1) B;have d:=d.same ((Same.refl H2).upd (o:=.lst zs) B);have a2:l≠m:=(A6 (y _ _ e1) B).symm;generalize upd H2 l (.lst zs)=H3 at s3 U C d;have D:∀r∈b,r.length=n:=λr g=>hR r ((S.mem r).mp g);have a3:zs.length<=1000:=by
   have:=Tab.nodup_le b rss S.nd λr g=>(S.mem r).mp g;rw[d.1];rw[<-hI.1]at this;omega
  have V:H m=none:=M;refine⟨l,rfl,⟨_,SqL.of U⟩,?_⟩;refine N4 (K:=K) (a:=l) (xs:=zs) (λi σ H'=>Ex2 λo2 fs=>An5 (σ=[some (.ref p),some (.ref m),o2]) (Off [m] H3 H') (H' m=some (.lst fs)) (Its H' fs (LO (b.take i))) (fs.length<=i)) ⟨none,[],rfl,Off.refl _ _,C,.nil,Nat.le_refl _⟩ (λi σ H' _ h=>by obtain⟨_,_,_,o',_⟩:=h;exact SqL.of (o' _ _ (by simpa using a2) U)) ?_ ?_
  .rintro i x σ H' I ⟨o2,fs,rfl,off,hf,hIf,hfl⟩;obtain⟨r,g,a1,a0⟩:=d.mem I;have a4:i<zs.length:=(List.getElem?_eq_some_iff.mp I).1;have J:IT H' x r:=by
    obtain⟨xa,rfl,O⟩:=a0;exact⟨xa,rfl,off _ _ (by simpa using K9 O C (by intro z;cases z)) O⟩
   have Y:∀f∈LO (b.take i),f.length<=1000:=λf hf=>by
    have:=(a8z (n:=n) (b.take i) λr g=>D r (List.mem_of_mem_take g)).1 f hf;rw[D f (List.mem_of_mem_take this)];exact hn2
   have t:LO (b.take (i+1))=if (LO (b.take i)).any (λu=>Bel u r)then LO (b.take i)else LO (b.take i)++[r]:=by
    rw[List.take_add_one,a1];exact a5a _ _
   dsimp only[A9];refine⟨_,rfl,_,rfl,m,x,fs,_,r,rfl,hf,hIf,J,Y,λH2 s2=>⟨_,rfl,?_⟩⟩;cases e:(LO (b.take i)).any (λu=>Bel u r)with
   |true =>
    rw[e,if_pos rfl]at t;refine D6 ⟨_,fs,rfl,off.trans s2.off,s2 _ _ hf,?_,by omega⟩;rw[t];exact hIf.same s2
   |false =>
    rw[e,if_neg (by decide)]at t;have G:=s2 _ _ hf;refine F0 ⟨_,rfl,.inl ⟨rfl,_,SqL.of G⟩,_,rfl,m,_,_,rfl,rfl,G,by omega,?_⟩;refine⟨_,fs++[x],rfl,(off.trans s2.off).set (by simp),A0,?_,by simp;omega⟩;rw[t];exact Its.put ((hIf.same s2).snoc (J.same s2)) G
  .rintro σ H' ⟨o2,fs,rfl,off,hf,hIf,_⟩;rw[d.1,List.take_length]at hIf;refine⟨_,rfl,m,fs,rfl,.inl ⟨SqL.of hf,λq hq=>?_⟩⟩;have s4:=(Same.refl H').upd (o:=.tup fs) hq;refine k q fs b _ ((a2m s3 V off).trans s4) S A0 ?_;have e:=a9Y (n:=n) b D S.ri S.nd b [] (by simp);rw[e]at hIf;have R:(b.filter λv=>Lst b v)=b.filter λv=>Lst rss v:=by
    congr 1;funext v;exact a9q S.mem v
   rw[R]at hIf;exact hIf.same s4
end
end K17
namespace K17
open PySem PySem.Spec PyProof.Rows L2
section
variable {P:Program}{w:World}{K:PySem.W.Frag}{mg:Str->Option Value}{base:Heap}
def FoW(rss:LLI)(cs:List (Option Int))(most:Nat)(H:Hp)(fv:V):Prop:=fv=.non∨∃q t pp zs tss ws F W k,fv=.ref q/\H q=some (.tup [.ref t,.ref pp])/\H t=some (.tup zs)/\Its H zs tss/\tss.Perm F/\C9 tss/\H pp=some (.tup ws)/\Its H ws W/\Wk rss cs F W [] k/\W.length<=most
inductive IspSystem(vs:List V)(H:Hp)(Q:VK)(E:XK):Prop
 |mk (a b:Addr) (n:Nat) (most:Nat) (mi:Int) (_:vs=[.ref a,.int mi]) (_:mi=most) (_:most<=2000) (_:PotAt H a b n) (_:n+2000<2 ^ 60) (_:∀q ra ca fv rss cs H',H' q=some (.tup [.ref ra,.ref ca,fv])->SyAt H' ra ca rss cs->cs.length<=8->rss.length<=6->FoW rss cs most H' fv->PotAt H' a b (n+200)->Off [a,b] H H'->Q (.ref q) H'):IspSystem  vs H Q E
def a5p:Sp:=λvs H Q E=>IspSystem  vs H Q E
theorem sc__law_system:FnScope ["_law_pot_here","_law_most","_law_width_here","_law_rows_here","_law_caps_here"] ["_law_pot_here","_law_most"] (A1 K1):=⟨rfl,rfl,rfl,by decide +kernel,rfl,by decide +kernel,by decide +kernel⟩
theorem a9j(F':FunAt K mg "_law_system" K1 ["_law_pot_here","_law_most"])(T:Tx mg)(c:Ok P w K mg base "_law_width" 2 ["_law_pot_here"] a7N)(e:Ok P w K mg base "_law_rows" 2 ["_law_pot_here","_law_width_here"] b0s)(g:Ok P w K mg base "_law_caps" 2 ["_law_pot_here","_law_width_here"] b0x)(d:Ok P w K mg base "_law_found" 8 ["_law_rows_here","_law_caps_here","_law_most"] a7R):Ok P w K mg base "_law_system" 9 ["_law_pot_here","_law_most"] a5p:=by
 refine F'.okJ sc__law_system (λvs H Q E h=>?_) (λa0 f A outer s H vs Q E F h=>?_)
 .obtain⟨a,b,n,most,mi,rfl,_⟩:=h;rfl
 .obtain⟨a,b,n,most,_,rfl,rfl,hmost,hP,hn,k⟩:=h;have hz:(3000:Nat)<=sizeLine:=by rw[sizeLine_eq];decide
  refine⟨_,(A3 (B2 (i:=2) sc__law_system.nd rfl (Or.inl rfl) (A7 c (F.mono (by omega)) rfl (jaC (jv 0) jaN)))
 (A3 (B2 (i:=3) sc__law_system.nd rfl (Or.inl rfl) (A7 e (F.mono (by omega)) rfl (jaC (jv 0) (jaC (jv 2) jaN))))
 (A3 (B2 (i:=4) sc__law_system.nd rfl (Or.inl rfl) (A7 g (F.mono (by omega)) rfl (jaC (jv 0) (jaC (jv 2) jaN))))
 (A4 (B0 (N2 (jaC (jv 3) (jaC (jv 4) (jaC (A7 d (F.mono (by omega)) rfl (jaC (jv 3) (jaC (jv 4) (jaC (jv 1) jaN)))) jaN))))))))),?_⟩
  refine⟨_,rfl,a,b,_,rfl,hP,by omega,λm H2 D hm8 M x=>?_⟩;dsimp only[A9];refine⟨_,rfl,_,rfl,a,b,_,m,_,rfl,rfl,D,hm8,M,by omega,λq us rss H3 U hI J hR u C=>?_⟩;dsimp only[A9];refine⟨_,rfl,_,rfl,a,b,_,m,_,rfl,rfl,D,hm8,u,by omega,λB cs S I hcl Y z l=>?_⟩;have p:=(x.trans C).trans l;have L:=l _ _ (b0Z u U) U;have G:Its S us rss:=T4 hI u l;have Y4:SyAt S q B rss cs:=⟨⟨us,L,G,by omega⟩,I,by omega,by omega,by rw[hcl];exact hR⟩;have y:rss.length<=6:=by rw[<-hI.1];exact J
  have R:(most+1)*cs.length<=(most+1)*8:=Nat.mul_le_mul_left _ (by omega);dsimp only[A9];refine⟨_,rfl,_,rfl,_,rfl,_,rfl,_,rfl,q,B,rss,cs,most,_,rfl,rfl,Y4,by omega,λH5 N _=>?_,λO t X zs tss ws Fl W kk H5 N h1 h2 h3 h4 h5 V h7 h8 Z=>?_⟩
  .refine⟨by show 3<=sizeLine;omega,λq6 r=>?_⟩;have v:=N.upd (o:=.tup [.ref q,.ref B,.non]) r;exact k q6 q B .non rss cs _ A0 (Y4.same v) (by omega) y (.inl rfl) ((z.same v).mono (by omega)) (p.trans v.off)
  .refine⟨by show 3<=sizeLine;omega,λq6 r=>?_⟩;have j:=(Same.refl H5).upd (o:=.tup [.ref q,.ref B,.ref O]) r;have v:=N.trans j;exact k q6 q B (.ref O) rss cs _ A0 (Y4.same v) (by omega) y (.inr ⟨O,t,X,zs,tss,ws,Fl,W,kk,rfl,j _ _ h1,j _ _ h2,h3.same j,h4,h5,j _ _ V,h7.same j,h8,Z⟩) ((z.same v).mono (by omega)) (p.trans v.off)
end
noncomputable def a0K(n:Nat)(v:List Int):Bool:=decide (v.length=n) && v.all λx=>decide (0<=x)
noncomputable def a7l(cs:List (Option Int))(v:List Int):Bool:=(v.any λx=>!decide (x=0)) && Wi cs v
noncomputable def N7(tss mss:LLI)(v:List Int):Bool:=decide (v∈mss) || tss.any λt=>Bel t v
noncomputable def goI(rss:LLI)(cs:List (Option Int))(tss mss:LLI)(v:List Int):Bool:=(tss.any λt=>Bel t v) || (!Ans rss v && (StP rss cs v).all λj=>N7 tss mss (bump v j))
structure Anti(rss tss:LLI):Prop where
 ri:C9 tss
 nd:tss.Nodup
 lst:∀v∈tss,Lst tss v=true
 ans:∀v∈tss,Ans rss v=true
theorem a0h{α:Type}(l:List α)(f:α->Bool):(l.map λx=>V.bl (f x)).all trV=l.all f:=by rw[List.all_map];rfl
theorem T8{α:Type}(l:List α)(f:α->Bool):(l.map λx=>V.bl (f x)).all a6e=true:=by
 rw[List.all_eq_true];intro v a;obtain⟨_,_,rfl⟩:=List.mem_map.mp a;rfl
theorem a9B(l:List Int):(l.map V.int).all a6e=true:=by
 rw[List.all_eq_true];intro v a;obtain⟨_,_,rfl⟩:=List.mem_map.mp a;rfl
theorem b6O(l:List Int):(l.map V.int).any trV=l.any λx=>!decide (x=0):=by
 rw[List.any_map];rfl
section
variable {P:Program}{w:World}{K:PySem.W.Frag}{mg:Str->Option Value}{base:Heap}
inductive IspNumI(vs:List V)(H:Hp)(Q:VK)(E:XK):Prop
 |mk (z:Int) (_:vs=[.int z]) (_:Q (.bl (decide (0<=z))) H):IspNumI  vs H Q E
def b0t:Sp:=λvs H Q E=>IspNumI  vs H Q E
theorem a4s:FnScope ["value"] ["value"] (A1 O0):=⟨rfl,rfl,rfl,by decide +kernel,rfl,by decide +kernel,by decide +kernel⟩
theorem a3k(F:FunAt K mg "is_number" O0 ["value"])(T:Tx mg):Ok P w K mg base "is_number" 1 ["value"] b0t:=by
 refine F.okJ a4s (λvs H Q E h=>?_) (λb f A outer s H vs Q E a h=>?_)
 .obtain⟨z,rfl,_⟩:=h;rfl
 .obtain⟨z,rfl,k⟩:=h;refine⟨_,(A4 (B0 (a1u (K5 K rfl T.b_isinstance (jaC (jv 0) (jaC (a4N (v:=.ty "int") rfl T.b_int b2x rfl) jaN))) (a1u (b7z (K5 K rfl T.b_isinstance (jaC (jv 0) (jaC (a4N (v:=.ty "bool") rfl T.b_bool b4v rfl) jaN)))) (a1t (b7u (jv 0) A5)))))),?_⟩;refine⟨_,rfl,.int z,"int",_,true,rfl,.int z,by with_unfolding_all rfl,true,rfl,F0 ?_⟩;refine⟨_,rfl,.int z,"bool",_,false,rfl,.int z,by with_unfolding_all rfl,false,rfl,_,rfl,F0 ?_⟩;exact⟨_,rfl,_,_,rfl,rfl,k⟩
inductive IspVecI(vs:List V)(H:Hp)(Q:VK)(E:XK):Prop
 |mk (y:V) (xs:List Int) (n:Nat) (wi:Int) (_:vs=[y,.int wi]) (_:wi=n) (_:IT H y xs) (_:xs.length<=1000) (_:∀H',Same H H'->Q (.bl (a0K n xs)) H'):IspVecI  vs H Q E
def b0p:Sp:=λvs H Q E=>IspVecI  vs H Q E
theorem a4r:FnScope ["value","width"] ["value","width"] (A1 N9):=⟨rfl,rfl,rfl,by decide +kernel,rfl,by decide +kernel,by decide +kernel⟩
theorem a3j(F:FunAt K mg "is_vector" N9 ["value","width"])(T:Tx mg)(b:Ok P w K mg base "is_number" 1 ["value"] b0t):Ok P w K mg base "is_vector" 2 ["value","width"] b0p:=by
 refine F.okJ a4r (λvs H Q E h=>?_) (λg f A outer s H vs Q E c h=>?_)
 .obtain⟨y,xs,n,wi,rfl,_⟩:=h;rfl
 .obtain⟨_,xs,n,_,rfl,rfl,⟨a,rfl,ha⟩,hl,k⟩:=h;refine⟨_,(A4 (B0 (a1u (K5 K rfl T.b_isinstance (jaC (jv 0) (jaC (a4N (v:=.ty "tuple") rfl T.b_tuple a3c rfl) jaN))) (a1u (a3L (L3 K rfl T.b_len (jaC (jv 0) jaN)) (jv 1)) (a1t (P6 K rfl T.b_all (jaC (C0 (N:=["part"]) (src:=[none]) (L1 K (jv 0)) (by show B7 _ _=true;rfl) (by rfl) (by rfl)
 (λ_ _ _ _ _=>(A8 (i:=0) (show(["part"]:List Str).Nodup by decide +kernel) rfl (Or.inl rfl))) (λ_ _ _ _ _=>D4) (λ_ _ _ _ _=>(A7 b (c.mono (by omega)) rfl (jaC (jv 0) jaN)))) jaN))))))),?_⟩
  refine⟨_,rfl,.ref a,"tuple",_,true,rfl,.tup ha,by with_unfolding_all rfl,true,rfl,F0 ?_⟩;refine⟨_,rfl,a,_,rfl,.inr (SqT.of ha),_,rfl,rfl,_,rfl,?_⟩;by_cases e:xs.length=n
  .rw[show decide (V.int ((xs.map V.int).length:Int)=V.int (n:Int))=true by rw[List.length_map,e];simp];refine F0 ⟨_,rfl,a,rfl,⟨_,SqT.of ha⟩,?_⟩;refine a5k (caps:=[]) (λx=>V.bl (decide (0<=x))) hl (λH' s=>SqT.of (s _ _ ha)) rfl (λx H2 d _ _ q=>⟨_,rfl,x,rfl,q⟩) λH2 p s2 hp=>?_;refine⟨false,p,_,rfl,SqL.of A0,T8 _ _,?_⟩;rw[a0h];have:=k _ (s2.upd (o:=.lst (xs.map λx=>V.bl (decide (0<=x)))) hp);unfold a0K at this;rw[decide_eq_true e,Bool.true_and]at this;exact this
  .rw[show decide (V.int ((xs.map V.int).length:Int)=V.int (n:Int))=false by rw[List.length_map,decide_eq_false_iff_not];intro z;injection z with z;exact e (by omega)];refine D6 ?_;have:=k H (Same.refl H);unfold a0K at this;rw[decide_eq_false e,Bool.false_and]at this;exact this
inductive IspVecsI(vs:List V)(H:Hp)(Q:VK)(E:XK):Prop
 |mk (a:Addr) (us:List V) (rss:LLI) (n:Nat) (wi:Int) (_:vs=[.ref a,.int wi]) (_:wi=n) (_:H a=some (.tup us)) (_:Its H us rss) (_:us.length<=100000) (_:(∀r∈rss,r.length<=1000)) (_:∀H',Same H H'->Q (.bl (rss.all (a0K n))) H'):IspVecsI  vs H Q E
def a7O:Sp:=λvs H Q E=>IspVecsI  vs H Q E
theorem a2k:FnScope ["value","width"] ["value","width"] (A1 K0):=⟨rfl,rfl,rfl,by decide +kernel,rfl,by decide +kernel,by decide +kernel⟩
theorem a1z(F:FunAt K mg "are_vectors" K0 ["value","width"])(T:Tx mg)(b:Ok P w K mg base "is_vector" 2 ["value","width"] b0p):Ok P w K mg base "are_vectors" 3 ["value","width"] a7O:=by
 refine F.okJ a2k (λvs H Q E h=>?_) (λj f A outer s H vs Q E c h=>?_)
 .obtain⟨a,us,rss,n,wi,rfl,_⟩:=h;rfl
 .obtain⟨a,us,rss,n,_,rfl,rfl,ha,hI,hl,hw,k⟩:=h;have e:(300000:Nat)<=sizeLine:=by rw[sizeLine_eq];decide
  refine⟨_,(A4 (B0 (a1u (K5 K rfl T.b_isinstance (jaC (jv 0) (jaC (a4N (v:=.ty "tuple") rfl T.b_tuple a3c rfl) jaN))) (a1t (P6 K rfl T.b_all (jaC (C0 (N:=["part","width"]) (src:=[none,some 1]) (L1 K (jv 0)) (by show B7 _ _=true;rfl) (by rfl) (by rfl)
 (λ_ _ _ _ _=>(A8 (i:=0) (show(["part","width"]:List Str).Nodup by decide +kernel) rfl (Or.inl rfl))) (λ_ _ _ _ _=>D4) (λ_ _ _ _ _=>(A7 b (c.mono (by omega)) rfl (jaC (jv 0) (jaC (jv 1) jaN))))) jaN)))))),?_⟩
  refine⟨_,rfl,.ref a,"tuple",_,true,rfl,.tup ha,by with_unfolding_all rfl,true,rfl,F0 ?_⟩;refine⟨_,rfl,a,rfl,⟨_,SqT.of ha⟩,?_⟩;refine a0m (caps:=[some (.int n)]) (λr=>V.bl (a0K n r)) (by omega) (λH' s=>SqT.of (s _ _ ha)) hI rfl (λv r H1 g c d s1 q=>?_) λH1 p s1 hp=>?_
  .exact⟨_,rfl,_,rfl,v,r,n,_,rfl,rfl,d,hw r c,q⟩
  .refine⟨false,p,_,rfl,SqL.of A0,T8 _ _,?_⟩;rw[a0h];exact k _ (s1.upd hp)
inductive IspAllFit(vs:List V)(H:Hp)(Q:VK)(E:XK):Prop
 |mk (c a:Addr) (us:List V) (rss:LLI) (cs:List (Option Int)) (_:vs=[.ref c,.ref a]) (_:H c=some (.tup (cs.map cV))) (_:cs.length<=1000) (_:H a=some (.tup us)) (_:Its H us rss) (_:us.length<=200000) (_:∀H',Same H H'->Q (.bl (rss.all (a7l cs))) H'):IspAllFit  vs H Q E
def a5v:Sp:=λvs H Q E=>IspAllFit  vs H Q E
theorem a6H:FnScope ["caps","some"] ["caps","some"] (A1 X6):=⟨rfl,rfl,rfl,by decide +kernel,rfl,by decide +kernel,by decide +kernel⟩
theorem a6X(F:FunAt K mg "all_fit" X6 ["caps","some"])(T:Tx mg)(b:Ok P w K mg base "within" 1 ["caps","one"] a2g):Ok P w K mg base "all_fit" 2 ["caps","some"] a5v:=by
 refine F.okJ a6H (λvs H Q E h=>?_) (λm f A outer s H vs Q E d h=>?_)
 .obtain⟨c,a,us,rss,cs,rfl,_⟩:=h;rfl
 .obtain⟨c,a,us,rss,cs,rfl,hc,hcl,ha,hI,hl,k⟩:=h;have j:(300000:Nat)<=sizeLine:=by rw[sizeLine_eq];decide
  refine⟨_,(A4 (B0 (P6 K rfl T.b_all (jaC (C0 (N:=["one","caps"]) (src:=[none,some 0]) (L1 K (jv 1)) (by show B7 _ _=true;rfl) (by rfl) (by rfl)
 (λ_ _ _ _ _=>(A8 (i:=0) (show(["one","caps"]:List Str).Nodup by decide +kernel) rfl (Or.inl rfl))) (λ_ _ _ _ _=>D4) (λ_ _ _ _ _=>(a1u (b6q K rfl T.b_any (jaC (jv 0) jaN)) (a1t (A7 b (d.mono (by omega)) rfl (jaC (jv 1) (jaC (jv 0) jaN))))))) jaN)))),?_⟩
  refine⟨_,rfl,a,rfl,⟨_,SqT.of ha⟩,?_⟩;refine a0m (caps:=[some (.ref c)]) (λr=>V.bl (a7l cs r)) (by omega) (λH' s=>SqT.of (s _ _ ha)) hI rfl (λv r H1 l d g s1 q=>?_) λH1 p s1 hp=>?_
  .obtain⟨va,rfl,hva⟩:=id g;refine⟨_,rfl,true,va,_,rfl,SqT.of hva,a9B _,_,rfl,?_⟩;rw[b6O];unfold a7l at q;cases e:r.any λx=>!decide (x=0)with
   |false =>
    rw[e,Bool.false_and]at q;exact D6 (q _ (Same.refl _))
   |true =>
    rw[e,Bool.true_and]at q;exact F0 ⟨_,rfl,_,rfl,c,va,cs,r,rfl,s1 _ _ hc,hva,hcl,q⟩
  .refine⟨false,p,_,rfl,SqL.of A0,T8 _ _,?_⟩;rw[a0h];exact k _ (s1.upd hp)
end
theorem b3n{K:PySem.W.Frag}{src:List (Option Nat)}{σ caps:L2.St}{Q:VK}{a:Addr}{ps:List V}{f:Nat->List Int}{d:List Nat}{H:Hp}{te:TE}(g:Nat->Bool)(hl:ps.length<=1000)(ha:H a=some (.lst ps))(n:Prs H ps f d)(c:B1 src σ=none::none::caps)
  (l:∀(j:Nat) v H1 Q1,j∈d->IT H1 v (f j)->Same H H1->(∀H2,Same H1 H2->Q1 (.bl (g j)) H2)->te (some (.int j)::some v::caps) H1 Q1)
  (hd:∀H1 p,Same H H1->H1 p=none->Q (.ref p) (upd H1 p (.lst (d.map λj=>V.bl (g j))))) :
  E5 src (a6b K 2 (U6 (A9 0) (U6 (A9 1) a7j))) K7 te σ Q (Itl K a) H:=by
 have q:(3000:Nat)<=sizeLine:=by rw[sizeLine_eq];decide
 refine R5 (xs:=ps) (by omega) (λi ys H'=>Same H H'/\ys=(d.take i).map λj=>V.bl (g j)) ⟨Same.refl H,by simp⟩ (λi ys H' _ h=>⟨SqL.of (h.1 _ _ ha),by rw[h.2,List.length_map];exact List.length_take_le _ _⟩) ?_ ?_
 .rintro i x ys H' hx ⟨s,rfl⟩;obtain⟨j,b,v,m,rfl,hb,o⟩:=n.2 i x hx;refine⟨b,[.int j,v],rfl,SqT.of (s _ _ hb),rfl,.int j,[v],rfl,v,[],rfl,rfl,?_⟩;rw[c];show Sub _ (some (.int j)::some v::caps)/\_;refine⟨⟨rfl,λk u e=>?_⟩,?_⟩
  .match k,e with
   |0,e=>cases e
   |1,e=>cases e
   |k+2,e=>exact e
  .refine l j v H' _ (List.mem_of_getElem? m) (o.same s) s λH2 s2=>⟨s.trans s2,?_⟩;rw[List.take_add_one,m,List.map_append];rfl
 .rintro ys H' ⟨s,rfl⟩ p hp;rw[n.1,List.take_length];exact hd H' p s hp
theorem b3c{H H':Hp}{d:Addr}{o:HO}(h:Rd H d o)(s:Same H H'):Rd H' d o:=by
 rcases h with h|⟨a,h⟩
 .exact .inl (s _ _ h)
 .exact .inr ⟨a,s _ _ h⟩
theorem DGet.rd{H:Hp}{a b:Addr}{kvs:List (List Key×V)}{k:List Key}(e:Rd H a (.dT kvs))(c:H b=some (.tup (k.map kV))):DGet H a (.ref b) (Q0 kvs k):=.inr ⟨kvs,k,b,e,rfl,c,rfl⟩
section
variable {P:Program}{w:World}{K:PySem.W.Frag}{mg:Str->Option Value}{base:Heap}
inductive IspAreLeast(vs:List V)(H:Hp)(Q:VK)(E:XK):Prop
 |mk (ra t:Addr) (us zs:List V) (rss tss:LLI) (n:Nat) (_:vs=[.ref ra,.ref t]) (_:H ra=some (.tup us)) (_:Its H us rss) (_:us.length<=1000) (_:(∀r∈rss,r.length<=1000)) (_:H t=some (.tup zs)) (_:Its H zs tss) (_:zs.length<=1000) (_:1<=n) (_:n<=1000) (_:(∀v∈tss,v.length=n/\Sm v)) (_:∀b H',Same H H'->(b=true↔Anti rss tss)->Q (.bl b) H'):IspAreLeast  vs H Q E
def a2h:Sp:=λvs H Q E=>IspAreLeast  vs H Q E
theorem a4u:FnScope ["rows","told"] ["rows","told"] (A1 O3):=⟨rfl,rfl,rfl,by decide +kernel,rfl,by decide +kernel,by decide +kernel⟩
theorem a4G(F:FunAt K mg "are_least" O3 ["rows","told"])(T:Tx mg)(b:Ok P w K mg base "least_of" 3 ["some"] a3A)(a:Ok P w K mg base "is_answer" 3 ["rows","one"] a1J):Ok P w K mg base "are_least" 4 ["rows","told"] a2h:=by
 refine F.okJ a4u (λvs H Q E h=>?_) (λD f A outer s H vs Q E g h=>?_)
 .obtain⟨ra,t,us,zs,rss,tss,n,rfl,_⟩:=h;rfl
 .obtain⟨ra,t,us,zs,rss,tss,n,rfl,hra,hI,hul,hRl,ht,hJ,hzl,n1,n2,hT,k⟩:=h;have y:(3000:Nat)<=sizeLine:=by rw[sizeLine_eq];decide
  have o:=g.u60;refine⟨_,(A4 (B0 (a1u (b6m K o (A7 b (g.mono (by omega)) rfl (jaC (jv 1) jaN)) (jv 1)) (a1t (P6 K rfl T.b_all (jaC (C0 (N:=["one","rows"]) (src:=[none,some 0]) (L1 K (jv 1)) (by show B7 _ _=true;rfl) (by rfl) (by rfl)
 (λ_ _ _ _ _=>(A8 (i:=0) (show(["one","rows"]:List Str).Nodup by decide +kernel) rfl (Or.inl rfl))) (λ_ _ _ _ _=>D4) (λ_ _ _ _ _=>(A7 a (g.mono (by omega)) rfl (jaC (jv 1) (jaC (jv 0) jaN))))) jaN)))))),?_⟩
  refine⟨_,rfl,t,zs,tss,n,rfl,ht,hJ,hzl,n1,n2,λr g=>(hT r g).1,λq B d H1 s1 S u l=>?_⟩;have x:C9 tss->tss.Nodup->d=tss:=λh1 h2=>S.eq ⟨h1,h2,λ_=>Iff.rfl⟩;refine⟨_,rfl,2,_,by decide,EqV.its (k:=true) (SqT.of u) (SqT.of (s1 _ _ ht)) l (hJ.same s1),⟨_,_,rfl,rfl⟩,_,rfl,?_⟩;by_cases e:(d.filter λv=>Lst tss v)=tss
  .rw[decide_eq_true e];refine F0 ⟨_,rfl,t,rfl,⟨_,SqT.of (s1 _ _ ht)⟩,?_⟩;refine a0m (caps:=[some (.ref ra)]) (λr=>V.bl (Ans rss r)) (by omega) (λH' s=>SqT.of (s _ _ (s1 _ _ ht))) (hJ.same s1) rfl (λv r H2 C j c s2 m=>?_) λH2 p s2 hp=>?_
   .have s12:=s1.trans s2;exact⟨_,rfl,_,rfl,ra,v,us,rss,r,rfl,s12 _ _ hra,hI.same s12,c,hul,hRl,(hT r j).2,m⟩
   .refine⟨false,p,_,rfl,SqL.of A0,T8 _ _,?_⟩;rw[a0h];refine k _ _ (s1.trans (s2.upd hp)) ?_;rw[List.all_eq_true];refine⟨λh=>⟨?_,?_,λv c=>?_,h⟩,λh=>h.ans⟩
    .rw[<-e];exact List.Pairwise.filter _ S.ri
    .rw[<-e];exact S.nd.filter _
    .rw[<-e]at c;exact(List.mem_filter.mp c).2
  .rw[decide_eq_false e];refine D6 (k _ _ s1 ⟨(λz=>nomatch z),λh=>absurd ?_ e⟩);rw[x h.ri h.nd];exact List.filter_eq_self.mpr λv c=>h.lst v c
inductive IspMet(vs:List V)(H:Hp)(Q:VK)(E:XK):Prop
 |mk (t d:Addr) (y:V) (zs:List V) (tss:LLI) (kvs:List (List Key×V)) (mss:LLI) (ys:List Int) (_:vs=[.ref t,.ref d,y]) (_:H t=some (.tup zs)) (_:Its H zs tss) (_:Rd H d (.dT kvs)) (_:kvs.map (·.1)=IK mss) (_:IT H y ys) (_:(∀f∈tss,f.length<=1000)) (_:∀H',Same H H'->Q (.bl (N7 tss mss ys)) H'):IspMet  vs H Q E
def b0v:Sp:=λvs H Q E=>IspMet  vs H Q E
theorem a8S:FnScope ["told","listed","one"] ["told","listed","one"] (A1 a0r):=⟨rfl,rfl,rfl,by decide +kernel,rfl,by decide +kernel,by decide +kernel⟩
theorem a9m(F:FunAt K mg "is_met" a0r ["told","listed","one"])(T:Tx mg)(a:Ok P w K mg base "above_any" 2 ["some","one"] a2i):Ok P w K mg base "is_met" 3 ["told","listed","one"] b0v:=by
 refine F.okJ a8S (λvs H Q E h=>?_) (λg f A outer s H vs Q E c h=>?_)
 .obtain⟨t,d,y,zs,tss,kvs,mss,ys,rfl,_⟩:=h;rfl
 .obtain⟨t,d,_,zs,tss,kvs,mss,ys,rfl,ht,hI,hd,hk,⟨y,rfl,hy⟩,hL,k⟩:=h;have e:=c.u60;refine⟨_,(A4 (B0 (b7y (b6n e (jv 2) (jv 1) (by with_unfolding_all rfl)) (a1t (A7 a (c.mono (by omega)) rfl (jaC (jv 0) (jaC (jv 2) jaN))))))),?_⟩;refine⟨_,rfl,_,rfl,d,_,rfl,DGet.rd hd (by rw[a7c];exact hy),_,rfl,?_⟩;rw[a5X hk];unfold N7 at k;by_cases b:ys∈mss
  .rw[decide_eq_true b]at k⊢;exact F0 (k _ (Same.refl _))
  .rw[decide_eq_false b,Bool.false_or]at k;rw[decide_eq_false b];exact D6 ⟨_,rfl,_,rfl,t,_,zs,tss,ys,rfl,ht,hI,⟨y,rfl,hy⟩,hL,k⟩
structure Ps(H:Hp)(ra c t d:Addr)(us zs:List V)(kvs:List (List Key×V))(rss tss mss:LLI)(cs:List (Option Int)):Prop where
 r:H ra=some (.tup us)
 I:Its H us rss
 c:H c=some (.tup (cs.map cV))
 t:H t=some (.tup zs)
 J:Its H zs tss
 d:Rd H d (.dT kvs)
theorem Ps.same{H H':Hp}{ra c t d:Addr}{us zs:List V}{kvs:List (List Key×V)}{rss tss a:LLI}{cs:List (Option Int)}(h:Ps H ra c t d us zs kvs rss tss a cs)(s:Same H H'):Ps H' ra c t d us zs kvs rss tss a cs:=⟨s _ _ h.r,h.I.same s,s _ _ h.c,s _ _ h.t,h.J.same s,b3c h.d s⟩
structure Pk(us:List V)(kvs:List (List Key×V))(rss tss mss:LLI)(cs:List (Option Int)):Prop where
 ul:us.length<=1000
 R:Rs cs.length rss
 n1:1<=cs.length
 n2:cs.length<=100
 k:kvs.map (·.1)=IK mss
 T:∀v∈tss,v.length=cs.length
 M:∀v∈mss,v.length=cs.length/\Sm v
inductive IspGoes(vs:List V)(H:Hp)(Q:VK)(E:XK):Prop
 |mk (ra c t d:Addr) (y:V) (us zs:List V) (kvs:List (List Key×V)) (rss tss mss:LLI) (cs:List (Option Int)) (ys:List Int) (_:vs=[.ref ra,.ref c,.ref t,.ref d,y]) (_:Ps H ra c t d us zs kvs rss tss mss cs) (_:Pk us kvs rss tss mss cs) (_:IT H y ys) (_:ys∈mss) (_:∀H',Same H H'->Q (.bl (goI rss cs tss mss ys)) H'):IspGoes  vs H Q E
def b0w:Sp:=λvs H Q E=>IspGoes  vs H Q E
theorem a6G:FnScope ["rows","caps","told","listed","one"] ["rows","caps","told","listed","one"] (A1 X5):=⟨rfl,rfl,rfl,by decide +kernel,rfl,by decide +kernel,by decide +kernel⟩
theorem a6W(F:FunAt K mg "goes_on" X5 ["rows","caps","told","listed","one"])(T:Tx mg)(b:Ok P w K mg base "above_any" 2 ["some","one"] a2i)(a:Ok P w K mg base "is_answer" 3 ["rows","one"] a1J)(l:Ok P w K mg base "steps" 4 ["rows","caps","one"] a4j)(g:Ok P w K mg base "is_met" 3 ["told","listed","one"] b0v):Ok P w K mg base "goes_on" 5 ["rows","caps","told","listed","one"] b0w:=by
 refine F.okJ a6G (λvs H Q E h=>?_) (λa0 f A outer s H vs Q E x h=>?_)
 .obtain⟨ra,c,t,d,y,us,zs,kvs,rss,tss,mss,cs,ys,rfl,_⟩:=h;rfl
 .obtain⟨ra,c,t,d,y,us,zs,kvs,rss,tss,mss,cs,ys,rfl,S,W,hy,hm,k⟩:=h;have o:∀f∈tss,f.length<=1000:=λf hf=>by rw[W.T f hf];have:=W.n2;omega
  obtain⟨u,n⟩:=W.M ys hm;have Z:=W.n2;refine⟨_,(A3 (E8 (E2 K (A7 b (x.mono (by omega)) rfl (jaC (jv 2) (jaC (jv 4) jaN))))
 (A4 (B0 N3))
 C8)
 (A3 (E8 (E2 K (A7 a (x.mono (by omega)) rfl (jaC (jv 0) (jaC (jv 4) jaN))))
 (A4 (B0 N3))
 C8)
 (A4 (B0 (P6 K rfl T.b_all (jaC (C0 (N:=["j","more","told","listed"]) (src:=[none,none,some 2,some 3]) (E6 K (A7 l (x.mono (by omega)) rfl (jaC (jv 0) (jaC (jv 1) (jaC (jv 4) jaN))))) (by show B7 _ _=true;rfl) (by rfl) (by rfl)
 (λ_ _ _ _ _=>(T3 K 2 (B4 (A8 (i:=0) (show(["j","more","told","listed"]:List Str).Nodup by decide +kernel) rfl (Or.inl rfl)) (B4 (A8 (i:=1) (show(["j","more","told","listed"]:List Str).Nodup by decide +kernel) rfl (Or.inl rfl)) M6)))) (λ_ _ _ _ _=>D4) (λ_ _ _ _ _=>(A7 g (x.mono (by omega)) rfl (jaC (jv 2) (jaC (jv 3) (jaC (jv 1) jaN)))))) jaN)))))),?_⟩
  refine⟨_,rfl,_,rfl,t,y,zs,tss,ys,rfl,S.t,S.J,hy,o,λH1 s1=>⟨_,rfl,?_⟩⟩;unfold goI at k;cases e:tss.any λt=>Bel t ys with
  |true =>
   rw[e,Bool.true_or]at k;exact F0 (k _ s1)
  |false =>
   rw[e,Bool.false_or]at k;have O:=S.same s1;refine D6 ⟨_,rfl,_,rfl,ra,y,us,rss,ys,rfl,O.r,O.I,hy.same s1,W.ul,λr z=>by rw[(W.R r z).1];omega,n,λH2 s2=>⟨_,rfl,?_⟩⟩;have m:=s1.trans s2;cases G:Ans rss ys with
   |true =>
    rw[G]at k;exact F0 (k _ m)
   |false =>
    rw[G,Bool.not_false,Bool.true_and]at k;have B:=S.same m;refine D6 ⟨_,rfl,_,rfl,_,rfl,ra,c,y,us,rss,cs,ys,rfl,B.r,B.I,B.c,hy.same m,W.ul,by omega,u.symm,by rw[u];exact W.R,n,λp ps H3 L hp U=>?_⟩;refine⟨p,rfl,⟨_,SqL.of hp⟩,?_⟩;have Y:(StP rss cs ys).length<=ys.length:=Nat.le_trans (List.length_filter_le _ _) (Nat.le_trans (List.length_filter_le _ _) (by simp));refine b3n (caps:=[some (.ref t),some (.ref d)]) (λj=>N7 tss mss (bump ys j)) (by rw[U.1];omega) hp U rfl (λj v H4 Q4 hj X D q=>?_) λH4 V D C=>?_
    .have S4:=S.same (m.trans (L.trans D));exact⟨_,rfl,_,rfl,_,rfl,t,d,v,zs,tss,kvs,mss,bump ys j,rfl,S4.t,S4.J,S4.d,W.k,X,o,q⟩
    .refine⟨false,V,_,rfl,SqL.of A0,T8 _ _,?_⟩;rw[a0h];exact k _ (m.trans (L.trans (D.upd C)))
structure Shw(rss:LLI)(cs:List (Option Int))(tss pss:LLI):Prop where
 tv:tss.all (a0K cs.length)=true
 pv:pss.all (a0K cs.length)=true
 fit:(tss++pss).all (a7l cs)=true
 an:Anti rss tss
 fst:(J8 cs).all (N7 tss pss)=true
 go:pss.all (goI rss cs tss pss)=true
inductive IspShows(vs:List V)(H:Hp)(Q:VK)(E:XK):Prop
 |mk (ra c t p:Addr) (us zs ws:List V) (rss tss pss:LLI) (cs:List (Option Int)) (_:vs=[.ref ra,.ref c,.ref t,.ref p]) (_:H ra=some (.tup us)) (_:Its H us rss) (_:us.length<=1000) (_:H c=some (.tup (cs.map cV))) (_:1<=cs.length) (_:cs.length<=100) (_:Rs cs.length rss) (_:H t=some (.tup zs)) (_:Its H zs tss) (_:zs.length<=1000) (_:H p=some (.tup ws)) (_:Its H ws pss) (_:ws.length<=100000) (_:(∀v∈tss++pss,v.length<=1000/\Sm v)) (_:∀b H',Same H H'->(b=true↔Shw rss cs tss pss)->Q (.bl b) H'):IspShows  vs H Q E
def a4l:Sp:=λvs H Q E=>IspShows  vs H Q E
theorem a3I{tss a pss:LLI}(h:∀r,r∈a↔r∈pss):N7 tss a=N7 tss pss:=by
 funext v;unfold N7;congr 1;rw[Bool.eq_iff_iff,decide_eq_true_eq,decide_eq_true_eq];exact h v
theorem b1Y{rss tss a pss:LLI}{cs:List (Option Int)}(h:∀r,r∈a↔r∈pss):goI rss cs tss a=goI rss cs tss pss:=by
 funext v;unfold goI;rw[a3I h]
theorem a7F{n:Nat}{l:LLI}(h:l.all (a0K n)=true):∀v∈l,v.length=n:=λv a=>by
 have:=List.all_eq_true.mp h v a;unfold a0K at this;rw[Bool.and_eq_true]at this;exact of_decide_eq_true this.1
theorem sc_shows:FnScope ["rows","caps","told","paper","listed"] ["rows","caps","told","paper"] (A1 a1N):=⟨rfl,rfl,rfl,by decide +kernel,rfl,by decide +kernel,by decide +kernel⟩
theorem b1q(F:FunAt K mg "shows" a1N ["rows","caps","told","paper"])(T:Tx mg)(a:Ok P w K mg base "are_vectors" 3 ["value","width"] a7O)(u:Ok P w K mg base "all_fit" 2 ["caps","some"] a5v)(l:Ok P w K mg base "are_least" 4 ["rows","told"] a2h)(B:Ok P w K mg base "is_met" 3 ["told","listed","one"] b0v)(g:Ok P w K mg base "first_steps" 2 ["caps"] a4n)(n:Ok P w K mg base "goes_on" 5 ["rows","caps","told","listed","one"] b0w):Ok P w K mg base "shows" 6 ["rows","caps","told","paper"] a4l:=by
 refine F.okJ sc_shows (λvs H Q E h=>?_) (λe0 f A outer s H vs Q E U h=>?_)
 .obtain⟨ra,c,t,p,us,zs,ws,rss,tss,pss,cs,rfl,_⟩:=h;rfl
 .obtain⟨ra,c,t,p,us,zs,ws,rss,tss,pss,cs,rfl,hra,hI,hul,hc,n1,n2,hR,ht,hJ,hzl,hp,hM,hwl,hV,k⟩:=h;have hu:=U.u60;have hz:(300000:Nat)<=sizeLine:=by rw[sizeLine_eq];decide
  have X:∀v∈tss,v.length<=1000/\Sm v:=λv j=>hV v (List.mem_append_left _ j);have a5:∀v∈pss,v.length<=1000/\Sm v:=λv j=>hV v (List.mem_append_right _ j);refine⟨_,(A3 (E8 (a4K (a8h (V8 (E2 K (A7 a (U.mono (by omega)) rfl (jaC (jv 2) (jaC (L3 K rfl T.b_len (jaC (jv 1) jaN)) jaN))))) (a4J (V8 (E2 K (A7 a (U.mono (by omega)) rfl (jaC (jv 3) (jaC (L3 K rfl T.b_len (jaC (jv 1) jaN)) jaN))))))))
 (A4 (B0 N3))
 C8)
 (A3 (E8 (a4K (a8h (V8 (E2 K (A7 u (U.mono (by omega)) rfl (jaC (jv 1) (jaC (C5 (jv 2) (jv 3)) jaN))))) (a4J (V8 (E2 K (A7 l (U.mono (by omega)) rfl (jaC (jv 0) (jaC (jv 2) jaN))))))))
 (A4 (B0 N3))
 C8)
 (A3 (B2 (i:=4) sc_shows.nd rfl (Or.inr rfl) (b1Q hu rfl T.b_dict (jaC (C0 (N:=["one"]) (src:=[none]) (L1 K (jv 3)) (by show B7 _ _=true;rfl) (by rfl) (by rfl)
 (λ_ _ _ _ _=>(A8 (i:=0) (show(["one"]:List Str).Nodup by decide +kernel) rfl (Or.inl rfl))) (λ_ _ _ _ _=>D4) (λ_ _ _ _ _=>(N2 (jaC (jv 0) (jaC N3 jaN))))) jaN)))
 (A3 (E8 (V8 (E2 K (P6 K rfl T.b_all (jaC (C0 (N:=["one","told","listed"]) (src:=[none,some 2,some 4]) (L1 K (A7 g (U.mono (by omega)) rfl (jaC (jv 1) jaN))) (by show B7 _ _=true;rfl) (by rfl) (by rfl)
 (λ_ _ _ _ _=>(A8 (i:=0) (show(["one","told","listed"]:List Str).Nodup by decide +kernel) rfl (Or.inl rfl))) (λ_ _ _ _ _=>D4) (λ_ _ _ _ _=>(A7 B (U.mono (by omega)) rfl (jaC (jv 1) (jaC (jv 2) (jaC (jv 0) jaN)))))) jaN))))
 (A4 (B0 N3))
 C8)
 (A4 (B0 (P6 K rfl T.b_all (jaC (C0 (N:=["one","rows","caps","told","listed"]) (src:=[none,some 0,some 1,some 2,some 4]) (b3Y (jv 4)) (by show B7 _ _=true;rfl) (by rfl) (by rfl)
 (λ_ _ _ _ _=>(A8 (i:=0) (show(["one","rows","caps","told","listed"]:List Str).Nodup by decide +kernel) rfl (Or.inl rfl))) (λ_ _ _ _ _=>D4) (λ_ _ _ _ _=>(A7 n (U.mono (by omega)) rfl (jaC (jv 1) (jaC (jv 2) (jaC (jv 3) (jaC (jv 4) (jaC (jv 0) jaN)))))))) jaN)))))))),?_⟩
  refine⟨_,rfl,_,rfl,c,_,rfl,.inr (SqT.of hc),t,zs,tss,cs.length,_,rfl,by rw[List.length_map],ht,hJ,by omega,λr I=>(X r I).1,λH1 s1=>⟨_,rfl,?_⟩⟩;cases e1:tss.all (a0K cs.length)with
  |false=>exact F0 (k _ _ s1 ⟨(λz=>nomatch z),λh=>by rw[h.tv]at e1;cases e1⟩)
  |true =>
  refine D6 ⟨_,rfl,_,rfl,c,_,rfl,.inr (SqT.of (s1 _ _ hc)),p,ws,pss,cs.length,_,rfl,by rw[List.length_map],s1 _ _ hp,hM.same s1,by omega,λr I=>(a5 r I).1,λH2 s2=>⟨_,rfl,?_⟩⟩;have O:=s1.trans s2;cases e2:pss.all (a0K cs.length)with
  |false=>exact F0 (k _ _ O ⟨(λz=>nomatch z),λh=>by rw[h.pv]at e2;cases e2⟩)
  |true =>
  have b1:=a7F e1;have c1:=a7F e2;refine D6 ?_;refine⟨_,rfl,_,rfl,_,rfl,t,p,zs,ws,rfl,rfl,O _ _ ht,O _ _ hp,by omega,λq H3 s3 hq=>?_⟩;have R:=O.trans s3;have b9:Its H3 (zs++ws) (tss++pss):=a4O (hJ.same R) (hM.same R);refine⟨c,q,_,_,cs,rfl,R _ _ hc,by omega,hq,b9,by rw[List.length_append];omega,λH4 s4=>⟨_,rfl,?_⟩⟩;have y:=R.trans s4;cases e3:(tss++pss).all (a7l cs)with
  |false=>exact F0 (k _ _ y ⟨(λz=>nomatch z),λh=>by rw[h.fit]at e3;cases e3⟩)
  |true =>
  refine D6 ⟨_,rfl,_,rfl,ra,t,us,zs,rss,tss,cs.length,rfl,y _ _ hra,hI.same y,hul,λr I=>by rw[(hR r I).1];omega,y _ _ ht,hJ.same y,hzl,n1,by omega,λv j=>⟨b1 v j,(X v j).2⟩,λb5 H5 s5 h5=>⟨_,rfl,?_⟩⟩;have C:=y.trans s5;cases b5 with
  |false=>exact F0 (k _ _ C ⟨(λz=>nomatch z),λh=>by have:=h5.mpr h.an;cases this⟩)
  |true =>
  have b4:=h5.mp rfl;refine D6 ?_;have a8:=C _ _ hp;have b2:=hM.same C;refine⟨_,rfl,p,rfl,⟨_,SqT.of a8⟩,?_⟩;refine R1 (K:=K) (xs:=ws) (by omega) (λi qs H'=>Same H5 H'/\PrT H' qs (pss.take i)) ⟨Same.refl H5,PrT.nil⟩ (λi qs H' _ h=>⟨SqT.of (h.1 _ _ a8),by rw[h.2.1];exact List.length_take_le _ _⟩) ?_ ?_
  .rintro i x qs H' hx ⟨s',hP'⟩;obtain⟨r,d5,c7,c6⟩:=b2.mem hx;refine⟨Sub.one,_,rfl,by show 2<=sizeLine;omega,λp8 c9=>?_⟩;have G:=(Same.refl H').upd (o:=.tup [x,.bl true]) c9;refine⟨s'.trans G,?_⟩;rw[List.take_add_one,c7];exact(hP'.same G).snoc A0 ((c6.same s').same G)
  rintro qs H6 ⟨s6,a0⟩ p6 a2;rw[hM.1,List.take_length]at a0;have s7:=(Same.refl H6).upd (o:=.lst qs) a2;refine⟨p6,qs,pss,rfl,A0,a0.same s7,λd kvs b hd hk m=>?_⟩;have G:=C.trans ((s6.trans s7).upd (o:=.dT kvs) hd);have e8:upd (upd H6 p6 (.lst qs)) d (.dT kvs) d=some (.dT kvs):=A0;have c3:H d=none:=C.free ((s6.trans s7).free hd);generalize upd (upd H6 p6 (.lst qs)) d (.dT kvs)=H8 at G e8;clear hd s7 a0 s6 a2;dsimp only[A9];have em:=a3I (tss:=tss) m.mem;have b7:=b1Y (rss:=rss) (tss:=tss) (cs:=cs) m.mem;have W:Pk us kvs rss tss b cs:=⟨hul,hR,n1,n2,hk,b1,λv j=>⟨c1 v ((m.mem v).mp j),(a5 v ((m.mem v).mp j)).2⟩⟩;have S8:Ps H8 ra c t d us zs kvs rss tss b cs:=⟨G _ _ hra,hI.same G,G _ _ hc,G _ _ ht,hJ.same G,.inl e8⟩;refine⟨_,rfl,c,cs,rfl,S8.c,n1,n2,λq9 b3 fss H9 s9 a6 b0 Y d0=>?_⟩;have d6:b3.length<=100:=by
   rw[b0.1,Y.length_eq];exact Nat.le_trans (List.length_filter_le _ _) (by simp;omega)
  refine⟨q9,rfl,⟨_,SqT.of a6⟩,?_⟩;refine a0m (caps:=[some (.ref t),some (.ref d)]) (λr=>V.bl (N7 tss b r)) (by omega) (λH' s=>SqT.of (s _ _ a6)) b0 rfl (λv r b6 d4 d1 j a1 c5=>?_) λb6 a7 a1 a9=>?_
  .have S10:=S8.same (s9.trans a1);exact⟨_,rfl,_,rfl,_,rfl,t,d,v,zs,tss,kvs,b,r,rfl,S10.t,S10.J,S10.d,hk,j,λf hf=>(X f hf).1,c5⟩
  have M:=(s9.trans a1).upd (o:=.lst (fss.map λr=>V.bl (N7 tss b r))) a9;refine⟨false,a7,_,rfl,SqL.of A0,T8 _ _,?_⟩;rw[a0h];have ef:fss.all (N7 tss b)=(J8 cs).all (N7 tss pss):=by
   rw[em];rw[Bool.eq_iff_iff,List.all_eq_true,List.all_eq_true];exact⟨λh v j=>h v (Y.mem_iff.mpr j),λh v j=>h v (Y.mem_iff.mp j)⟩
  rw[ef];generalize upd b6 a7 (.lst (fss.map λr=>V.bl (N7 tss b r)))=D at M;have S:=G.trans M;refine⟨_,rfl,?_⟩;cases e4:(J8 cs).all (N7 tss pss)with
  |false=>exact F0 (k _ _ S ⟨(λz=>nomatch z),λh=>by rw[h.fst]at e4;cases e4⟩)
  |true =>
  refine D6 ?_;have b8:=M _ _ e8;have d9:=S8.same M;refine⟨_,rfl,d,kvs,rfl,b8,λob=>?_⟩;have off:Off [d] D (upd D d (.frz ob (.dT kvs))):=(Off.refl _ _).set (by simp);have Z:upd D d (.frz ob (.dT kvs)) d=some (.frz ob (.dT kvs)):=A0;have e:Same H (upd D d (.frz ob (.dT kvs))):=a2m S c3 off;generalize upd D d (.frz ob (.dT kvs))=c2 at e Z;have c4:Ps c2 ra c t d us zs kvs rss tss b cs:=⟨e _ _ hra,hI.same e,e _ _ hc,e _ _ ht,hJ.same e,.inr ⟨ob,Z⟩⟩;have d7:=b1U hk;have d8:b.length<=100000:=by have:=m.le;rw[<-hM.1]at this;omega
  refine a9F (caps:=[some (.ref ra),some (.ref c),some (.ref t),some (.ref d)]) (λr=>V.bl (goI rss cs tss b r)) (by omega) Z hk rfl (λv r d3 d2 a3 j L c8=>?_) λd3 c0 L a4=>?_
  .have S13:=c4.same L;exact⟨_,rfl,_,rfl,_,rfl,_,rfl,_,rfl,ra,c,t,d,v,us,zs,kvs,rss,tss,b,cs,r,rfl,S13,W,j,a3,c8⟩
  .refine⟨false,c0,_,rfl,SqL.of A0,T8 _ _,?_⟩;rw[a0h];have ea:b.all (goI rss cs tss b)=pss.all (goI rss cs tss pss):=by
    rw[b7];rw[Bool.eq_iff_iff,List.all_eq_true,List.all_eq_true];exact⟨λh v j=>h v ((m.mem v).mpr j),λh v j=>h v ((m.mem v).mp j)⟩
   rw[ea];refine k _ _ (e.trans (L.upd a4)) ⟨λh=>⟨e1,e2,e3,b4,e4,h⟩,λh=>h.go⟩
end
theorem a4Q{cs:List (Option Int)}{v:List Int}(a:∀x∈v,0<=x):a7l cs v=true↔0<v.sum/\Wi cs v=true:=by
 unfold a7l;rw[Bool.and_eq_true];refine and_congr_left λ_=>?_;rw[List.any_eq_true];constructor
 .rintro⟨x,hx,h⟩;have h1:¬x=0:=by simpa using h
  have h2:=a x hx;exact a7J v a x hx (by omega)
 .intro h;obtain⟨j,b,h1⟩:=a4C a h;rw[List.getD_eq_getElem?_getD,List.getElem?_eq_getElem b]at h1;have h1:1<=v[j]:=h1;exact⟨v[j],List.getElem_mem _,by simp;omega⟩
theorem vecI_iff{n:Nat}{v:List Int}:a0K n v=true↔v.length=n/\∀x∈v,0<=x:=by
 unfold a0K;rw[Bool.and_eq_true,decide_eq_true_eq,List.all_eq_true];exact and_congr_right λ_=>⟨λh x a=>of_decide_eq_true (h x a),λh x a=>decide_eq_true (h x a)⟩
theorem b2S{rss:LLI}{cs:List (Option Int)}{F W tss pss:LLI}{k:Nat}(hR:∀r∈rss,r.length=cs.length)(h:Wk rss cs F W [] k)(c:tss.Perm F)(l:C9 tss)(d:∀v∈pss,v.length=cs.length/\(∀x∈v,0<=x)/\0<v.sum/\Wi cs v=true)(g:∀v∈pss,v∈W∨(tss.any λt=>Bel t v)=true)(m:∀v∈W,v∈pss∨(tss.any λt=>Bel t v)=true):Shw rss cs tss pss:=by
 have hL:∀v,v∈tss↔Least rss cs v:=λv=>c.mem_iff.trans (h.least hR v);have n:tss.Nodup:=c.symm.nodup h.nd.2;have pap:=h.pap hR;have met:∀v,v∈W->N7 tss pss v=true:=λv b=>by
  unfold N7;rcases m v b with z|z
  .rw[decide_eq_true z,Bool.true_or]
  .rw[z,Bool.or_true]
 refine⟨List.all_eq_true.mpr λv b=>?_,List.all_eq_true.mpr λv b=>?_,List.all_eq_true.mpr λv b=>?_,⟨l,n,λv b=>?_,λv b=>((hL v).mp b).an.ans⟩,List.all_eq_true.mpr λv b=>met v (pap.fst v b),List.all_eq_true.mpr λv b=>?_⟩
 .exact vecI_iff.mpr ⟨((hL v).mp b).an.len,((hL v).mp b).an.nn⟩
 .exact vecI_iff.mpr ⟨(d v b).1,(d v b).2.1⟩
 .rcases List.mem_append.mp b with z|z
  .have:=(hL v).mp z;exact(a4Q this.an.nn).mpr ⟨this.an.pos,this.wi⟩
  .have:=d v z;exact(a4Q this.2.1).mpr this.2.2
 .unfold Lst;rw[Bool.not_eq_true',List.any_eq_false];intro u p hb;rw[Bool.and_eq_true]at hb;have h1:=(hL u).mp p;have h2:=(hL v).mp b;have:=h2.min u h1.an ((C1 (by rw[h1.an.len,h2.an.len])).mp hb.2);rw[this]at hb;simp at hb
 .obtain⟨h1,h2,h3,h4⟩:=d v b;unfold goI;cases o:tss.any λt=>Bel t v with
  |true=>rfl
  |false =>
   have i:v∈W:=(g v b).resolve_right (by rw[o];decide);rw[Bool.false_or,Bool.and_eq_true,Bool.not_eq_true'];constructor
   .cases e:Ans rss v with
    |false=>rfl
    |true =>
     obtain⟨a,ha,q⟩:=M7 v.sum.toNat (by omega) ⟨h1,h2,e,h3⟩ h4;have:=List.any_eq_false.mp o a ((hL a).mpr ha);rw[(C1 (by rw[ha.an.len,h1])).mpr q]at this;exact absurd rfl this
   .rw[List.all_eq_true];intro j s;rcases pap.nx v i (by simp) j s with z|⟨f,hf,hb⟩
    .exact met _ z
    .unfold N7;rw[List.any_eq_true.mpr ⟨f,c.mem_iff.mpr hf,hb⟩,Bool.or_true]
theorem Shw.answer{rss:LLI}{cs:List (Option Int)}{tss pss:LLI}(h:Shw rss cs tss pss){t:List Int}(a:t∈tss):Answer rss cs.length t/\Wi cs t=true:=by
 obtain⟨h1,h2⟩:=vecI_iff.mp (List.all_eq_true.mp h.tv t a);obtain⟨c,b⟩:=(a4Q h2).mp (List.all_eq_true.mp h.fit t (List.mem_append_left _ a));exact⟨⟨h1,h2,h.an.ans t a,c⟩,b⟩
theorem Shw.above{rss:LLI}{cs:List (Option Int)}{tss pss:LLI}(h:Shw rss cs tss pss){u v:List Int}(c:Least rss cs v)(a:Under u v)(ha:(tss.any λt=>Bel t u)=true):v∈tss:=by
 obtain⟨t,b,hb⟩:=List.any_eq_true.mp ha;have d:=(h.answer b).1;have e:Under t u:=(C1 (by rw[d.len,a.1,c.an.len])).mp hb;have:=c.min t d (Under.trans e a);rw[<-this];exact b
theorem Shw.walk{rss:LLI}{cs:List (Option Int)}{tss pss:LLI}(h:Shw rss cs tss pss)(hR:∀r∈rss,r.length=cs.length){v:List Int}(b:Least rss cs v):∀(m:Nat) (u:List Int),(v.sum-u.sum).toNat<=m->Under u v->N7 tss pss u=true->v∈tss:=by
 intro m;induction m with
 |zero =>
  intro u B d a;have y:=d.sum.1;have e:u=v:=Under.eq d (by omega);cases k:tss.any λt=>Bel t u with
  |true=>exact h.above b d k
  |false =>
   unfold N7 at a;rw[k,Bool.or_false,decide_eq_true_eq]at a;have f:=List.all_eq_true.mp h.go u a;unfold goI at f;rw[k,Bool.false_or,Bool.and_eq_true,e,b.an.ans]at f;exact absurd f.1 (by decide)
 |succ m ih =>
  intro u B d a;cases k:tss.any λt=>Bel t u with
  |true=>exact h.above b d k
  |false =>
   unfold N7 at a;rw[k,Bool.or_false,decide_eq_true_eq]at a;have f:=List.all_eq_true.mp h.go u a;unfold goI at f;rw[k,Bool.false_or,Bool.and_eq_true,Bool.not_eq_true']at f;obtain⟨i,x⟩:=f;have w:u≠v:=λz=>by rw[z,b.an.ans]at i;cases i
   have q:=b4N rss u v (λr A=>by rw[hR r A,b.an.len]) d w b.an.ans;obtain⟨j,p⟩:=List.exists_mem_of_ne_nil _ q;have n:=a6S p;have o:j<u.length:=by rw[d.1];exact n.1
   have g:a0G rss u j<0:=by
    unfold Pl at p;have:=(List.mem_filter.mp p).2;rw[i,Bool.false_or,Bool.and_eq_true]at this;exact of_decide_eq_true this.2
   have l:a6l (cs.getD j none) (u.getD j 0)=true:=by
    have:=(a0I b.an.len).mp b.wi j (by rw[<-b.an.len];exact n.1);cases e:cs.getD j none with
    |none=>rfl
    |some c =>
     rw[e]at this;have:v.getD j 0<=c:=of_decide_eq_true this;exact decide_eq_true (by omega)
   have s:j∈StP rss cs u:=by
    unfold StP;rw[List.mem_filter,List.mem_filter,List.mem_range,decide_eq_true_eq];exact⟨⟨o,g⟩,l⟩
   refine ih (bump u j) ?_ (Under.bump (rss:=rss) d p) (List.all_eq_true.mp x j s);rw[a0D u j o];omega
theorem Shw.sound{rss:LLI}{cs:List (Option Int)}{tss pss:LLI}(h:Shw rss cs tss pss)(hR:∀r∈rss,r.length=cs.length)(v:List Int):v∈tss↔Least rss cs v:=by
 have back:∀v,Least rss cs v->v∈tss:=λv b=>by
  obtain⟨j,k,h1⟩:=a4C b.an.nn b.an.pos;have d:j<cs.length:=by rw[<-b.an.len];exact k
  have c:Under (K6 cs.length j) v:=⟨by rw[J4,b.an.len],λi hi=>by
   rw[Q5 _ _ _ (by rw[<-b.an.len];exact hi)];split
   .rename_i e;subst e;exact h1
   .exact b4S b.an.nn i⟩
  have hf:K6 cs.length j∈J8 cs:=List.mem_filter.mpr ⟨List.mem_map.mpr ⟨j,List.mem_range.mpr d,rfl⟩,a1I b.an.len b.wi c⟩;exact h.walk hR b _ _ (Nat.le_refl _) c (List.all_eq_true.mp h.fst _ hf)
 refine⟨λl=>?_,back v⟩;obtain⟨g,hw⟩:=h.answer l;obtain⟨a,ha,c⟩:=M7 v.sum.toNat (by omega) g hw;have f:=back a ha;have hl:=h.an.lst v l;unfold Lst at hl;rw[Bool.not_eq_true',List.any_eq_false]at hl;have:=hl a f;rw[(C1 (by rw[ha.an.len,g.len])).mpr c,Bool.and_true]at this;have e:a=v:=by simpa using this
 rw[<-e];exact ha
theorem Wk.src{rss:LLI}{cs:List (Option Int)}{F W L:LLI}{k:Nat}(h:Wk rss cs F W L k):(∀v∈L,v∈W)/\∀v∈W,v∈J8 cs∨∃u∈W,∃j∈StP rss cs u,v=bump u j:=by
 induction h with
 |@one L ri nd h=>exact⟨λv a=>a,λv a=>.inl ((h v).mp a)⟩
 |@more F W L L' k h ne ri nd hm ih =>
  refine⟨λv a=>List.mem_append_right _ a,λv a=>?_⟩;rcases List.mem_append.mp a with z|z
  .rcases ih.2 v z with q|⟨u,hu,j,hj,e⟩
   .exact .inl q
   .exact .inr ⟨u,List.mem_append_left _ hu,j,hj,e⟩
  .obtain⟨u,hu,j,hj,e,_⟩:=(hm v).mp z;exact .inr ⟨u,List.mem_append_left _ (ih.1 u hu),j,hj,e⟩
theorem Wk.bar{rss:LLI}{cs:List (Option Int)}{F W L:LLI}{k:Nat}(hR:∀r∈rss,r.length=cs.length)(h:Wk rss cs F W L k):∀v∈W,∀f∈F,Under f v->f=v:=by
 induction h with
 |@one L ri nd h =>
  intro v b f hf a;exact((Wk.one ri nd h).ok hR).bar v b f hf a
 |@more F W L L' k h ne ri nd hm ih =>
  intro v b f hf a;have o:=(Wk.more h ne ri nd hm).ok hR;rcases List.mem_append.mp b with z|z
  .rcases List.mem_append.mp hf with q|q
   .exact ih v z f q a
   .obtain⟨i,q1,q2,lv⟩:=h.lv.2.1 v z;have hl:=((Wk.more h ne ri nd hm).lv).1 f (List.mem_filter.mp q).1;have h1:=a.sum.1;rw[hl.sum,lv.sum]at h1;omega
  .exact o.bar v z f hf a
theorem b0C{rss:LLI}{cs:List (Option Int)}{F W tss pss:LLI}{k:Nat}{g:List Int}(hR:∀r∈rss,r.length=cs.length)(h:Wk rss cs F W [] k)(c:tss.Perm F)(y:g∈W)(s:g∉tss)(hp:∀v,v∈pss↔v∈W/\v≠g):¬Shw rss cs tss pss:=by
 intro A;have hL:=h.lv;have a:∀v∈W,v.length=cs.length:=λv m=>by
  obtain⟨i,_,_,lv⟩:=hL.2.1 v m;exact lv.len
 have o:∀f∈tss,f∈W:=λf hf=>(hL.2.2.1 f (c.mem_iff.mp hf)).1;have l:∀v∈W,(tss.any λt=>Bel t v)=true->v∈tss:=λv m ha=>by
  obtain⟨t,p,hb⟩:=List.any_eq_true.mp ha;have D:=(C1 (by rw[a t (o t p),a v m])).mp hb;rw[<-h.bar hR v m t (c.mem_iff.mp p) D];exact p
 have d:N7 tss pss g=false:=by
  unfold N7;have h1:decide (g∈pss)=false:=decide_eq_false λz=>((hp g).mp z).2 rfl;rw[h1,Bool.false_or];cases e:tss.any λt=>Bel t g with
  |false=>rfl
  |true=>exact absurd (l g y e) s
 rcases h.src.2 g y with q|⟨u,x,j,B,e⟩
 .have:=List.all_eq_true.mp A.fst g q;rw[d]at this;cases this
 .have hjl:=a4i B;have n:u≠g:=λz=>by
   have:=a0D u j hjl.1;rw[<-e,z]at this;omega
  have b:=List.all_eq_true.mp A.go u ((hp u).mpr ⟨x,n⟩);unfold goI at b;cases C:tss.any λt=>Bel t u with
  |true =>
   have w:=l u x C;have:=a6n (hL.2.2.1 u (c.mem_iff.mp w)).2 j;omega
  |false =>
   rw[C,Bool.false_or,Bool.and_eq_true]at b;have:=List.all_eq_true.mp b.2 j B;rw[<-e,d]at this;cases this
theorem b2T{rss:LLI}{cs:List (Option Int)}{F W tss a pss:LLI}{k:Nat}(hR:∀r∈rss,r.length=cs.length)(h:Wk rss cs F W [] k)(b:tss.Perm F)(d:C9 tss)(c:Shw rss cs a pss):a=tss :=
 a2q c.an.ri d c.an.nd (b.symm.nodup h.nd.2) λv=>(c.sound hR v).trans (b.mem_iff.trans (h.least hR v)).symm
end K17
namespace L2
open PySem PySem.Spec PyProof.Rows
section
variable {X:Cx}{a b:Expr}{ta tb:TE}{pos:Pos}
end
theorem Its.take{H:Hp}{vs:List V}{rss:LLI}(h:Its H vs rss)(n:Nat):Its H (vs.take n) (rss.take n):=by
 refine⟨by rw[List.length_take,List.length_take,h.1],λi v e=>?_⟩;rw[List.getElem?_take]at e;split at e
 .rename_i hi;obtain⟨r,a,b⟩:=h.2 i v e;exact⟨r,by rw[List.getElem?_take,if_pos hi];exact a,b⟩
 .cases e
theorem Its.drop{H:Hp}{vs:List V}{rss:LLI}(h:Its H vs rss)(n:Nat):Its H (vs.drop n) (rss.drop n):=by
 refine⟨by rw[List.length_drop,List.length_drop,h.1],λi v e=>?_⟩;rw[List.getElem?_drop]at e⊢;exact h.2 _ v e
theorem Its.app{H:Hp}{vs b:List V}{rss a:LLI}(h:Its H vs rss)(g:Its H b a):Its H (vs++b) (rss++a):=by
 refine⟨by rw[List.length_append,List.length_append,h.1,g.1],λi v e=>?_⟩;rcases Nat.lt_or_ge i vs.length with hi|hi
 .rw[List.getElem?_append_left hi]at e;rw[List.getElem?_append_left (by rw[<-h.1];exact hi)];exact h.2 i v e
 .rw[List.getElem?_append_right hi]at e;rw[List.getElem?_append_right (by rw[<-h.1];exact hi),<-h.1];exact g.2 _ v e
theorem Its.one{H:Hp}{v:V}{r:List Int}(h:IT H v r):Its H [v] [r]:=Its.nil.snoc h
theorem b7G{xs:List V}{n:Nat}(h:n<=xs.length):L4 xs none (some (n:Int))=xs.take n:=by
 unfold L4;rw[HT.sIx_none,HT.sIx_nat,Nat.min_eq_left h,List.drop_zero,Nat.sub_zero]
theorem b5c{xs:List V}{n:Nat}(h:n<=xs.length):L4 xs (some (n:Int)) none=xs.drop n:=by
 unfold L4;rw[HT.sIx_none,HT.sIx_nat,Nat.min_eq_left h,List.take_of_length_le (by rw[List.length_drop];omega)]
theorem a3F:∀{a b:LLI},C9 a->C9 b->a.Nodup->b.Nodup->(∀v,v∈a↔v∈b)->a=b
 |[],[],_,_,_,_,_=>rfl
 |[],y::b,_,_,_,_,h=>by have:=(h y).mpr List.mem_cons_self;cases this
 |x::a,[],_,_,_,_,h=>by have:=(h x).mp List.mem_cons_self;cases this
 |x::a,y::b,ra,rb,na,nb,h=>by
  obtain⟨g,j⟩:=List.pairwise_cons.mp ra;obtain⟨d,c⟩:=List.pairwise_cons.mp rb;obtain⟨n1,n2⟩:=List.nodup_cons.mp na;obtain⟨i,f⟩:=List.nodup_cons.mp nb;have e:x=y:=by
   refine M8 x y ?_ ?_
   .rcases List.mem_cons.mp ((h x).mp List.mem_cons_self)with z|z
    .rw[z];exact J6 y
    .exact d x z
   .rcases List.mem_cons.mp ((h y).mpr List.mem_cons_self)with z|z
    .rw[z];exact J6 x
    .exact g y z
  subst e;rw[a3F j c n2 f λv=>?_];constructor
  .intro hv;rcases List.mem_cons.mp ((h v).mp (List.mem_cons_of_mem _ hv))with z|z
   .exact absurd (z ▸ hv) n1
   .exact z
  .intro hv;rcases List.mem_cons.mp ((h v).mpr (List.mem_cons_of_mem _ hv))with z|z
   .exact absurd (z ▸ hv) i
   .exact z
structure Srt(rss srt:LLI):Prop where
 ri:C9 srt
 nd:srt.Nodup
 mem:∀r,r∈srt↔r∈rss
theorem Srt.eq{rss a b:LLI}(h:Srt rss a)(g:Srt rss b):a=b:=a3F h.ri g.ri h.nd g.nd λv=>(h.mem v).trans (g.mem v).symm
end L2
namespace K17
open PySem PySem.Spec PyProof.Rows L2
def Tk(H H':Hp):Prop:=∀c xs,H c=some (HO.tup xs)->H' c=some (.tup xs)
theorem Tk.trans{H H' a:Hp}(h:Tk H H')(g:Tk H' a):Tk H a:=λc xs e=>g c xs (h c xs e)
theorem Tk.same{H H':Hp}(s:Same H H'):Tk H H':=λc xs e=>s c _ e
theorem Tk.pot{H H':Hp}{a b:Addr}{n:Nat}(d:PotAt H a b n)(o:Off [a,b] H H'):Tk H H':=λc xs e=>o c _ (b0Z d e) e
theorem Tk.it{H H':Hp}(h:Tk H H'){v:V}{r:List Int}(g:IT H v r):IT H' v r:=let ⟨a,e,q⟩:=g;⟨a,e,h _ _ q⟩
theorem Tk.its{H H':Hp}(h:Tk H H'){vs:List V}{rss:LLI}(g:Its H vs rss):Its H' vs rss:=⟨g.1,λi v e=>let ⟨r,e1,e2⟩:=g.2 i v e;⟨r,e1,h.it e2⟩⟩
theorem a8n{H:Hp}:∀{vs:List V}{rss:LLI},Its H vs rss->Its H vs.reverse rss.reverse
 |[],[],_=>.nil
 |[],_::_,h=>by cases h.1
 |_::_,[],h=>by cases h.1
 |v::vs,r::rss,h=>by
  obtain⟨b,a,c⟩:=h.2 0 v rfl;have a:r=b:=by injection a
  rw[List.reverse_cons,List.reverse_cons];exact(a8n (vs:=vs) (rss:=rss) (h.drop 1)).app (Its.one (by rw[a];exact c))
def Spt(H:Hp)(n:Nat)(g:V)(pss:LLI):Prop:=∃(p:Addr) (ps:List V),g=.ref p/\H p=some (.tup ps)/\Its H ps pss/\ps.length<=1000/\∀v∈pss,v.length=n/\∀x∈v,0<=x/\x<=5000
theorem Spt.tk{H H':Hp}{n:Nat}{g:V}{pss:LLI}(h:Spt H n g pss)(k:Tk H H'):Spt H' n g pss:=let ⟨p,ps,e1,e2,e3,e4⟩:=h;⟨p,ps,e1,k _ _ e2,k.its e3,e4⟩
def Spts(H:Hp)(n:Nat)(gs:List V):Prop:=∀g∈gs,∃pss,Spt H n g pss
theorem Spts.tk{H H':Hp}{n:Nat}{a:List V}(h:Spts H n a)(k:Tk H H'):Spts H' n a:=λg b=>let ⟨pss,q⟩:=h g b;⟨pss,q.tk k⟩
theorem Spts.app{H:Hp}{n:Nat}{a hs:List V}(h:Spts H n a)(h2:Spts H n hs):Spts H n (a++hs):=λg b=>(List.mem_append.mp b).elim (h g) (h2 g)
def Vw(n:Nat)(B:Int)(v:List Int):Prop:=v.length=n/\∀x∈v,0<=x/\x<=B
theorem Vw.mono{n:Nat}{B C:Int}{v:List Int}(h:Vw n B v)(b:B<=C):Vw n C v:=⟨h.1,λx a=>by have:=h.2 x a;omega⟩
theorem Vw.set{n:Nat}{B C:Int}{v:List Int}(h:Vw n B v)(b:B<=C)(j:Nat){z:Int}(h0:0<=z)(h1:z<=C):Vw n C (v.set j z):=⟨by rw[List.length_set];exact h.1,λx a=>by
 rcases List.mem_or_eq_of_mem_set a with q|q
 .have:=h.2 x q;omega
 .omega⟩
section
variable {P:Program}{w:World}{K:PySem.W.Frag}{mg:Str->Option Value}{base:Heap}
theorem b2M{H:Hp}{Q:VK}{p:Addr}{ps:List V}{pss:LLI}{n:Nat}(hp:H p=some (.tup ps))(hI:Its H ps pss)(hl:ps.length<=999)(n1:1<=n)(h:∀v∈pss,Vw n 5000 v)(q:∀r H',Same H H'->(∃f,Spt H' n (.ref r) f)->Q (.ref r) H'):a4A K [V.ref p] H λy H1=>a4z K [y] H1 Q:=by
 refine⟨p,ps,pss,rfl,.inr (SqT.of hp),hI,λr d=>by rw[(h r d).1];exact n1,λl zs tss e a b i _=>?_⟩;have s1:=(Same.refl H).upd (o:=.lst zs) e;have g:upd H l (.lst zs) l=some (.lst zs):=A0;have c:=a.same s1;generalize upd H l (.lst zs)=H1 at s1 g c;refine⟨l,_,rfl,.inl ⟨SqL.of g,λr d=>?_⟩⟩;have s2:=(Same.refl H1).upd (o:=.tup zs) d;refine q r _ (s1.trans s2) ⟨tss,r,zs,rfl,A0,c.same s2,?_,λv j=>h v (b.mem_iff.mp j)⟩;rw[a.1,b.length_eq,<-hI.1];omega
theorem a0n{σ:L2.St}{H:Hp}{Q:VK}{i j:Nat}{p:Addr}{ps:List V}{pss:LLI}{v:V}{r:List Int}{n:Nat}(hi:σ[i]?=some (some (.ref p)))(g:σ[j]?=some (some v))(hp:H p=some (.tup ps))(hI:Its H ps pss)(k:IT H v r)(hl:ps.length<=900)(n1:1<=n)(l:∀v∈pss,Vw n 5000 v)(f:Vw n 5000 r)(q:∀w H',Same H H'->(∃c,Spt H' n (.ref w) c)->Q (.ref w) H'):tCB (a4z K) (U4 (tCB (a4A K) (U4 (tOp a2r (L8 i) (a5l (U4 (L8 j) R9))) R9)) R9) σ H Q:=by
 have m:(30000:Nat)<=sizeLine:=by rw[sizeLine_eq];decide
 refine⟨_,hi,_,g,by show 1<=sizeLine;omega,λp1 b=>?_⟩;have s1:=(Same.refl H).upd (o:=.tup [v]) b;have d:upd H p1 (.tup [v]) p1=some (.tup [v]):=A0;generalize upd H p1 (.tup [v])=H1 at s1 d;refine⟨p,p1,_,_,rfl,rfl,s1 _ _ hp,d,by show _+1<=_;omega,λp2 H2 s2 h=>?_⟩;have a:=s1.trans s2;refine b2M (K:=K) (n:=n) (pss:=pss++[r]) h ((hI.same a).app (Its.nil.snoc (k.same a))) (by rw[List.length_append];show _+1<=_;omega) n1 (λu e=>?_) λw H' s' hs=>q w H' (a.trans s') hs;rcases List.mem_append.mp e with z|z
 .exact l u z
 .rw[List.mem_singleton.mp z];exact f
theorem b5j{H:Hp}{Q:VK}{t:Addr}{zs:List V}{k:Nat}(a:H t=some (.tup zs))(b:k<=zs.length)(q:∀p H',Same H H'->H' p=some (.tup (zs.drop k))->Q (.ref p) H'):b5o K (.ref t) (some (k:Int)) none H Q:=by
 refine⟨t,zs,rfl,SqT.of a,λh=>?_,λ_ p hp=>?_⟩
 .have h1:=h.1;rw[HT.sIx_nat]at h1;have:zs.drop k=zs:=by
   by_cases e:k=0
   .rw[e];rfl
   .have:zs.length=0:=by omega
    rw[List.length_eq_zero_iff.mp this];simp
  exact q t H (Same.refl _) (by rw[this];exact a)
 .refine q p _ ((Same.refl H).upd hp) ?_;rw[A0,b5c b]
theorem b0z{H:Hp}{Q:VK}{t:Addr}{zs:List V}{k:Nat}(a:H t=some (.tup zs))(b:k<zs.length)(q:∀p H',Same H H'->H' p=some (.tup (zs.take k))->Q (.ref p) H'):a6N K (.ref t) none (some (k:Int)) H Q:=by
 refine⟨t,zs,rfl,SqT.of a,?_,λp hp=>?_⟩
 .rw[HT.sIx_none,HT.sIx_nat];omega
 .refine q p _ ((Same.refl H).upd hp) ?_;rw[A0,b7G (by omega)]
theorem b4G{H:Hp}{Q:VK}{t:Addr}{zs:List V}{k:Nat}(a:H t=some (.tup zs))(b:k<zs.length)(q:∀p H',Same H H'->H' p=some (.tup (zs.drop (k+1)))->Q (.ref p) H'):a6N K (.ref t) (some ((k:Int)+1)) none H Q:=by
 have e:((k:Int)+1)=((k+1:Nat):Int):=by push_cast;rfl
 refine⟨t,zs,rfl,SqT.of a,?_,λp hp=>?_⟩
 .rw[e,HT.sIx_nat];omega
 .refine q p _ ((Same.refl H).upd hp) ?_;rw[A0,e,b5c (by omega)]
inductive IspSum2(vs:List V)(H:Hp)(Q:VK)(E:XK):Prop
 |mk (x:_) (y:_) (xs:_) (ys:_) (_:vs=[x,y]) (_:IT H x xs) (_:IT H y ys) (_:xs.length<=1000) (_:∀v H',Same H H'->IT H' v (List.zipWith (λa b=>a+b) xs ys)->Q v H'):IspSum2  vs H Q E
def b0r:Sp:=λvs H Q E=>IspSum2  vs H Q E
theorem a5A:FnScope ["_law_one","_law_other"] ["_law_one","_law_other"] (A1 S3):=⟨rfl,rfl,rfl,by decide +kernel,rfl,by decide +kernel,by decide +kernel⟩
theorem b3O(F:FunAt K mg "_law_sum" S3 ["_law_one","_law_other"])(T:Tx mg):Ok P w K mg base "_law_sum" 1 ["_law_one","_law_other"] b0r:=by
 refine F.okJ a5A (λvs H Q E h=>?_) (λg f A outer s H vs Q E c h=>?_)
 .obtain⟨x,y,xs,ys,rfl,_⟩:=h;rfl
 .obtain⟨_,_,xs,ys,rfl,⟨a,rfl,ha⟩,⟨b,rfl,hb⟩,hl,k⟩:=h;refine⟨_,(A4 (B0 (B8 K rfl T.b_tuple (jaC (C0 (N:=["_law_number","_law_more"]) (src:=[none,none]) (a2K K rfl T.b_zip (jaC (jv 0) (jaC (jv 1) jaN))) (by show B7 _ _=true;rfl) (by rfl) (by rfl)
 (λ_ _ _ _ _=>(T3 K 2 (B4 (A8 (i:=0) (show(["_law_number","_law_more"]:List Str).Nodup by decide +kernel) rfl (Or.inl rfl)) (B4 (A8 (i:=1) (show(["_law_number","_law_more"]:List Str).Nodup by decide +kernel) rfl (Or.inl rfl)) M6)))) (λ_ _ _ _ _=>D4) (λ_ _ _ _ _=>(L0 (jv 0) (jv 1)))) jaN)))),?_⟩
  refine⟨_,rfl,_,rfl,true,true,a,b,rfl,⟨_,SqT.of ha⟩,⟨_,SqT.of hb⟩,?_⟩;refine a3r (caps:=[]) (λx y=>V.int (x+y)) hl (λH' s=>⟨sqt (s _ _ ha),sqt (s _ _ hb)⟩) rfl (λx y H1 d _ e _ q=>⟨_,rfl,_,rfl,_,_,rfl,rfl,q⟩) λH1 p s hp=>?_;rw[a4d (λx y=>x+y) V.int];refine⟨p,_,rfl,.inl ⟨SqL.of A0,λl hl=>?_⟩⟩;exact k _ _ ((s.upd hp).upd hl) ⟨l,rfl,A0⟩
theorem b5e{n:Nat}{u v:List Int}(d:Vw n 1000 u)(c:Vw n 1000 v):Vw n 5000 (List.zipWith (λa b=>a+b) u v):=by
 refine⟨by rw[List.length_zipWith,d.1,c.1,Nat.min_self],λx e=>?_⟩;obtain⟨i,hi,rfl⟩:=List.mem_iff_getElem.mp e;rw[List.length_zipWith]at hi;rw[List.getElem_zipWith];have h1:=d.2 _ (List.getElem_mem (h:=(by omega:i<u.length)));have h2:=c.2 _ (List.getElem_mem (h:=(by omega:i<v.length)));omega
inductive IspSpoilt(vs:List V)(H:Hp)(Q:VK)(E:XK):Prop
 |mk (a b t:Addr) (m n:Nat) (wi:Int) (zs:List V) (tss:LLI) (_:vs=[.ref a,.int wi,.ref t]) (_:wi=n) (_:PotAt H a b m) (_:m+2000<2 ^ 60) (_:1<=n) (_:n<=8) (_:H t=some (.tup zs)) (_:Its H zs tss) (_:zs.length<=150) (_:(∀v∈tss,Vw n 1000 v)) (_:∀q gs H',H' q=some (.lst gs)->(∀g∈gs,∃pss,Spt H' n g pss/\pss≠tss)->PotAt H' a b (m+10)->Off [a,b] H H'->Q (.ref q) H'):IspSpoilt  vs H Q E
def a5q:Sp:=λvs H Q E=>IspSpoilt  vs H Q E
theorem sc__law_spoilt:FnScope ["_law_pot_here","_law_width_here","_law_told","_law_some","_law_at","_law_j","_law_one","_law_more","_law_fewer","_law_two","_law_rest"] ["_law_pot_here","_law_width_here","_law_told"] (A1 K2):=⟨rfl,rfl,rfl,by decide +kernel,rfl,by decide +kernel,by decide +kernel⟩
theorem a9k(F:FunAt K mg "_law_spoilt" K2 ["_law_pot_here","_law_width_here","_law_told"])(T:Tx mg)(c:Ok P w K mg base "_law_take" 1 ["_law_pot_here","_law_many"] a0M)(W:Ok P w K mg base "_law_sum" 1 ["_law_one","_law_other"] b0r):Ok P w K mg base "_law_spoilt" 2 ["_law_pot_here","_law_width_here","_law_told"] a5q:=by
 refine F.okJ sc__law_spoilt (λvs H Q E h=>?_) (λp8 f A outer s H vs Q E hr h=>?_)
 .obtain⟨a,b,t,m,n,wi,zs,tss,rfl,_⟩:=h;rfl
 .obtain⟨a,b,t,m,n,_,zs,tss,rfl,rfl,hP,hm,n1,n8,ht,hI,hzl,hV,kk⟩:=h;have hu:=hr.u60;have hz:(30000:Nat)<=sizeLine:=by rw[sizeLine_eq];decide
  refine⟨_,(A3 (B2 (i:=3) sc__law_spoilt.nd rfl (Or.inl rfl) (J1 (jaC (b6r K (jv 2) (b4W A5)) (jaC (C5 (N2 (jaC (b6s (N2 (jaC A5 jaN)) (jv 1)) jaN)) (jv 2)) jaN))))
 (A3 (E8 (a0Y K hu (jv 2) (N2 jaN))
 (A3 (B2 (i:=4) sc__law_spoilt.nd rfl (Or.inl rfl) (A7 c (hr.mono (by omega)) rfl (jaC (jv 0) (jaC (L3 K rfl T.b_len (jaC (jv 2) jaN)) jaN))))
 (A3 (B2 (i:=5) sc__law_spoilt.nd rfl (Or.inl rfl) (A7 c (hr.mono (by omega)) rfl (jaC (jv 0) (jaC (jv 1) jaN))))
 (A3 (B2 (i:=6) sc__law_spoilt.nd rfl (Or.inl rfl) (W2 K (jv 2) (jv 4)))
 (A3 (B2 (i:=7) sc__law_spoilt.nd rfl (Or.inl rfl) (C5 (C5 (W1 K (jv 6) D9 (D8 (jv 5))) (N2 (jaC (L0 (W2 K (jv 6) (jv 5)) A5) jaN))) (W1 K (jv 6) (D8 (L0 (jv 5) A5)) D9)))
 (A3 (B2 (i:=8) sc__law_spoilt.nd rfl (Or.inl rfl) (C5 (C5 (W1 K (jv 6) D9 (D8 (jv 5))) (N2 (jaC (b6p rfl T.b_max (jaC A5 (jaC (a8l (W2 K (jv 6) (jv 5)) A5) jaN))) jaN))) (W1 K (jv 6) (D8 (L0 (jv 5) A5)) D9)))
 (A3 (B2 (i:=9) sc__law_spoilt.nd rfl (Or.inl rfl) (A7 W (hr.mono (by omega)) rfl (jaC (jv 6) (jaC (W2 K (jv 2) (A7 c (hr.mono (by omega)) rfl (jaC (jv 0) (jaC (L3 K rfl T.b_len (jaC (jv 2) jaN)) jaN)))) jaN))))
 (A3 (B2 (i:=10) sc__law_spoilt.nd rfl (Or.inl rfl) (C5 (W1 K (jv 2) D9 (D8 (jv 4))) (W1 K (jv 2) (D8 (L0 (jv 4) A5)) D9)))
 (A3 (B2 (i:=3) sc__law_spoilt.nd rfl (Or.inl rfl) (b4X (jv 3) (J1 (jaC (jv 10) (jaC (C5 (C5 (W1 K (jv 2) D9 (D8 (jv 4))) (N2 (jaC (jv 6) jaN))) (b7x K (jv 2) (D8 (jv 4)) D9)) (jaC (B8 K rfl T.b_tuple (jaC (R0 K rfl T.b_sorted (jaC (C5 (jv 2) (N2 (jaC (jv 9) jaN))) jaN)) jaN)) (jaC (B8 K rfl T.b_tuple (jaC (R0 K rfl T.b_sorted (jaC (C5 (jv 10) (N2 (jaC (jv 9) jaN))) jaN)) jaN)) jaN)))))))
 (A4 (B2 (i:=3) sc__law_spoilt.nd rfl (Or.inl rfl) (b4X (jv 3) (J1 (jaC (B8 K rfl T.b_tuple (jaC (R0 K rfl T.b_sorted (jaC (C5 (jv 10) (N2 (jaC (jv 7) jaN))) jaN)) jaN)) (jaC (B8 K rfl T.b_tuple (jaC (R0 K rfl T.b_sorted (jaC (C5 (jv 10) (N2 (jaC (jv 8) jaN))) jaN)) jaN)) (jaC (W1 K (jv 2) D9 (D8 (jv 4))) (jaC (W1 K (jv 2) (D8 (L0 (jv 4) A5)) D9) jaN))))))))))))))))
 C8)
 (A4 (B0 (C0 (N:=["_law_other","_law_told"]) (src:=[none,some 2]) (E6 K (jv 3)) (by show B7 _ _=true;rfl) (by rfl) (by rfl)
 (λ_ _ _ _ _=>(A8 (i:=0) (show(["_law_other","_law_told"]:List Str).Nodup by decide +kernel) rfl (Or.inl rfl))) (λ_ _ _ _ _=>(W0 (a0Y K hu (jv 0) (jv 1)))) (λ_ _ _ _ _=>(jv 0))))))),?_⟩
  refine⟨_,rfl,_,rfl,rfl,t,zs,rfl,SqT.of ht,λp1 l0=>?_⟩;have s1:=(Same.refl H).upd (o:=.tup zs.reverse) l0;have e1:upd H p1 (.tup zs.reverse) p1=some (.tup zs.reverse):=A0;generalize upd H p1 (.tup zs.reverse)=H1 at s1 e1;refine⟨by show 1<=sizeLine;omega,λp2 k7=>⟨_,rfl,p2,[.int 0],_,rfl,rfl,A0,by simp,by omega,?_,λq3 H3 s3 e3=>?_⟩⟩
  .show(1:Int)*_<=_;omega
  rw[Int.toNat_natCast,b2d]at e3;have u:=((Same.refl H1).upd (o:=.tup [.int 0]) k7).trans s3;refine⟨by show 1<=sizeLine;omega,λp4 m1=>?_⟩;have d5:=(Same.refl H3).upd (o:=.tup [.ref q3]) m1;have e4:upd H3 p4 (.tup [.ref q3]) p4=some (.tup [.ref q3]):=A0;generalize upd H3 p4 (.tup [.ref q3])=H4 at d5 e4;have r:=u.trans d5;have d0:=s1.trans r;refine⟨_,rfl,p4,t,_,_,rfl,rfl,e4,d0 _ _ ht,by show 1+zs.length<=_;omega,λp5 H5 s5 e5=>?_⟩;refine⟨by show 2<=sizeLine;omega,λg6 g1=>?_⟩;have h1:=(Same.refl H5).upd (o:=.lst [.ref p1,.ref p5]) g1;have d6:=s5.trans h1;have b8:=d0.trans d6;have e6:upd H5 g6 (.lst [.ref p1,.ref p5]) g6=some (.lst [.ref p1,.ref p5]):=A0;have O:∀v∈tss,Vw n 5000 v:=λv hv=>(hV v hv).mono (by omega);have G6:Spts (upd H5 g6 (.lst [.ref p1,.ref p5])) n [V.ref p1,.ref p5]:=λg hg=>by
   simp only[List.mem_cons,List.not_mem_nil,or_false]at hg;rcases hg with rfl|rfl
   .exact⟨tss.reverse,p1,zs.reverse,rfl,(r.trans d6) _ _ e1,a8n (hI.same b8),by rw[List.length_reverse];omega,λv hv=>O v (List.mem_reverse.mp hv)⟩
   .refine⟨[List.replicate n 0]++tss,p5,[V.ref q3]++zs,rfl,h1 _ _ e5,Its.app (Its.nil.snoc ⟨q3,rfl,(d5.trans d6) _ _ e3⟩) (hI.same b8),by rw[List.length_append];show 1+_<=_;omega,λv hv=>?_⟩;rcases List.mem_append.mp hv with z|z
    .rw[List.mem_singleton.mp z];exact⟨List.length_replicate,λx hx=>by rw[(List.mem_replicate.mp hx).2];omega⟩
    .exact O v z
  have j0:=hP.same b8;have b5:=I9 (hP.same (d0.trans s5)) g1;have m4:H g6=none:=(d0.trans s5).free g1;have i5:[V.ref p1,.ref p5].length<=2:=by simp
  generalize upd H5 g6 (.lst [.ref p1,.ref p5])=H6 at b8 e6 G6 j0;generalize [V.ref p1,.ref p5]=Z at e6 G6 i5;clear s1 e1 u s3 e3 d5 e4 r d0 s5 e5 h1 d6
  try dsimp only[A9,List.set]
  refine X1 (λσ H'=>Ex9 λ(g:Addr) (gs:List V) (o4 o5 o6 o7 o8 o9 j3:Option V)=>An6 (σ=[some (.ref a),some (.int n),some (.ref t),some (.ref g),o4,o5,o6,o7,o8,o9,j3]) (H' g=some (.lst gs)) (Spts H' n gs) (gs.length<=10) (PotAt H' a b (m+3)) (Off [a,b] H H')) ?fin λfin=>?_
  case fin =>
   rintro σ H7 ⟨g,gs,o4,o5,o6,o7,o8,o9,j3,rfl,eg,hG,i5,a1,f1⟩;have j4:Tk H H7:=Tk.pot hP f1;refine⟨_,rfl,g,rfl,⟨_,SqL.of eg⟩,?_⟩;refine R5 (K:=K) (a:=g) (xs:=gs) (by omega) (λi ys H3=>Same H7 H3/\(∀y∈ys,∃pss,Spt H7 n y pss/\pss≠tss)/\ys.length<=i) ⟨Same.refl _,(λ_ z=>nomatch z),Nat.le_refl _⟩ (λi ys H3 _ h=>⟨SqL.of (h.1 _ _ eg),h.2.2⟩) ?_ ?_
   .rintro i x ys H3 hx ⟨s3,hys,hyl⟩;obtain⟨pss,hS⟩:=hG x (List.mem_of_getElem? hx);obtain⟨p,ps,rfl,ep,l5,o1,n7⟩:=id hS;refine⟨Sub.one,?_⟩;refine⟨_,rfl,_,rfl,2,_,by decide,EqV.its (k:=true) (SqT.of (s3 _ _ ep)) (SqT.of (s3 _ _ (j4 _ _ ht))) (l5.same s3) ((j4.its hI).same s3),⟨_,_,rfl,rfl⟩,_,rfl,a3n (λe=>?_) (λe=>?_)⟩
    .have c8:pss≠tss:=by simpa using e
     refine⟨_,rfl,s3,λy hy=>?_,by simp;omega⟩;rcases List.mem_append.mp hy with z|z
     .exact hys y z
     .rw[List.mem_singleton.mp z];exact⟨pss,hS,c8⟩
    .exact⟨s3,hys,by omega⟩
   .rintro ys H3 ⟨s3,hys,hyl⟩ p3 hp3;have s4:=s3.upd (o:=.lst ys) hp3;refine kk p3 ys _ A0 (λy hy=>?_) ((a1.same s4).mono (by omega)) (f1.trans s4.off);obtain⟨pss,hS,c8⟩:=hys y hy;exact⟨pss,hS.tk (Tk.same s4),c8⟩
  refine⟨_,rfl,Nat.zero_le _,λp7 l6=>?_⟩;have s7:=(Same.refl H6).upd (o:=.tup []) l6;have e7:upd H6 p7 (.tup []) p7=some (.tup []):=A0;have b4:=b8.trans s7;have G7:=G6.tk (Tk.same s7);have a1:=j0.same s7;have d2:=s7 _ _ e6;generalize upd H6 p7 (.tup [])=H7 at s7 e7 b4 G7 a1 d2;have h4:=hI.same b4;have d8:=b4 _ _ ht;refine⟨2,_,by decide,EqV.its (k:=true) (SqT.of d8) (SqT.of e7) h4 .nil,⟨_,_,rfl,rfl⟩,_,rfl,a3n (λe=>?_) (λe=>fin _ _ ⟨g6,Z,_,_,_,_,_,_,_,rfl,d2,G7,by omega,a1.mono (by omega),b4.off⟩)⟩;have c8:tss≠[]:=by simpa using e
  have n6:0<zs.length:=by rw[hI.1];exact List.length_pos_iff.mpr c8
  refine⟨_,rfl,_,rfl,_,_,rfl,.inr (SqT.of d8),a,b,_,_,rfl,a1,by omega,by omega,by omega,λr8 H8 p0 n2 g9 a4=>?_⟩;obtain⟨k,rfl⟩:∃k:Nat,r8=k:=⟨r8.toNat,by omega⟩;have hk:k<zs.length:=by omega
  have b6:=b4.off.trans a4;have k3:=Tk.pot a1 a4;have k5:=a4 _ _ b5 d2
  try dsimp only[A9,List.set]
  refine⟨_,rfl,_,rfl,a,b,_,_,rfl,g9,by omega,by omega,by omega,λr9 H9 n5 o0 i3 a3=>?_⟩;obtain⟨j,rfl⟩:∃k:Nat,r9=k:=⟨r9.toNat,by omega⟩;have b9:=b6.trans a3;have d4:=k3.trans (Tk.pot g9 a3);have k4:=a3 _ _ b5 k5;have g3:=d4 _ _ d8;have h8:=d4.its h4;have G9:=G7.tk d4;clear a1 g9 d2 k5 a4 a3 b6 k3 d4 s7 e7 d8 h4 G7
  try dsimp only[A9,List.set]
  obtain⟨one,l3,m9,oa,m0,b0⟩:=h8.mem (List.getElem?_eq_getElem hk);have I:=hV one l3;have c5:j<one.length:=by rw[I.1];omega
  have n0:=I.2 (one.getD j 0) (by rw[List.getD_eq_getElem?_getD,List.getElem?_eq_getElem c5];exact List.getElem_mem _);refine⟨_,rfl,_,rfl,t,_,_,_,rfl,rfl,SqT.of g3,Z2 (List.getElem?_eq_getElem hk),?_⟩;rw[m0]
  try dsimp only[A9,List.set]
  refine a6P (z:=one.getD j 0+1) (k:=j) rfl rfl b0 c5 (by rw[I.1];omega) (λq0 N s q=>⟨_,rfl,_,rfl,oa,_,_,_,rfl,rfl,SqT.of (s _ _ b0),a0g c5,_,_,rfl,rfl,q⟩) λp6 m8 e0 d=>?_
  try dsimp only[A9,List.set]
  refine a6P (z:=if one.getD j 0-1 > 0 then one.getD j 0-1 else 0) (k:=j) rfl rfl (e0 _ _ b0) c5 (by rw[I.1];omega) (λq0 N s q=>⟨_,rfl,_,rfl,oa,_,_,_,rfl,rfl,SqT.of ((e0.trans s) _ _ b0),a0g c5,_,_,rfl,rfl,_,_,rfl,q⟩) λq1 m7 g0 C=>?_
  try dsimp only[A9,List.set]
  have B:=e0.trans g0;have c6:=i3.same B;have c0:=B _ _ g3;have e2:=h8.same B;have f4:=B _ _ k4;have j6:=G9.tk (Tk.same B);have d:=d.same g0;have c2:=B _ _ b0;have a2:=b9.trans (B.off (l:=[a,b]));clear i3 g3 h8 k4 G9 b0 e0 g0 B b9;refine⟨_,rfl,_,rfl,_,rfl,_,rfl,t,_,rfl,.inr (SqT.of c0),a,b,_,_,rfl,c6,by omega,by omega,by omega,λl1 n3 m2 m3 f2 J=>?_⟩;obtain⟨k2,rfl⟩:∃k:Nat,l1=k:=⟨l1.toNat,by omega⟩;have i0:k2<zs.length:=by omega
  have G:=Tk.pot c6 J;have c3:=G _ _ c0;have c9:=G.its e2;have f6:=J _ _ b5 f4;have k6:=j6.tk G;have d:=G.it d;have C:=G.it C;have a0:=G _ _ c2;have a8:=a2.trans J;clear c6 c0 e2 f4 j6 c2 a2 J G;obtain⟨g7,l9,n4,qa,k8,j5⟩:=c9.mem (List.getElem?_eq_getElem i0);refine⟨t,_,_,_,rfl,rfl,SqT.of c3,Z2 (List.getElem?_eq_getElem i0),?_⟩;rw[k8];refine⟨_,_,one,g7,rfl,⟨oa,rfl,a0⟩,⟨qa,rfl,j5⟩,by rw[I.1];omega,λp9 m6 u U=>?_⟩;have h3:=b5e I (hV g7 l9);generalize List.zipWith (λa b=>a+b) one g7=tw at U h3;have i7:Vw n 5000 (one.set j (one.getD j 0+1)):=I.set (by omega) j (by omega) (by omega);have i9:Vw n 5000 (one.set j (if one.getD j 0-1 > 0 then one.getD j 0-1 else 0)):=I.set (by omega) j (by split<;>omega) (by split<;>omega);generalize one.set j (one.getD j 0+1)=mo at d i7;generalize one.set j (if one.getD j 0-1 > 0 then one.getD j 0-1 else 0)=fe at C i9
  try dsimp only[A9,List.set]
  have e9:=f2.same u;have a6:=u _ _ c3;have f5:=c9.same u;have f8:=u _ _ f6;have i2:=k6.tk (Tk.same u);have d:=d.same u;have C:=C.same u;have c1:=u _ _ a0;have a5:=a8.trans (u.off (l:=[a,b]));clear f2 c3 c9 f6 k6 a0 a8 u j5;refine⟨_,rfl,_,rfl,_,rfl,b0z a6 hk λpA HA sA eA=>?_⟩;refine⟨_,rfl,_,rfl,_,_,rfl,rfl,_,rfl,?_⟩;dsimp only[G4];refine b4G (sA _ _ a6) hk λpB HB sB eB=>?_;refine⟨pA,pB,_,_,rfl,rfl,sB _ _ eA,eB,by rw[List.length_take,List.length_drop];omega,λpr HR sR eR=>?_⟩;have r:=(sA.trans sB).trans sR;have j1:=e9.same r;have Y:=r _ _ a6;have D:=f5.same r;have j2:=r _ _ f8;have l7:=i2.tk (Tk.same r);have d:=d.same r;have C:=C.same r;have U:=U.same r;have h0:=r _ _ c1;have d1:=a5.trans (r.off (l:=[a,b]));have b2:=(D.take k).app (D.drop (k+1));have l4:(zs.take k++zs.drop (k+1)).length<=150:=by rw[List.length_append,List.length_take,List.length_drop];omega
  have c4:∀v∈tss.take k++tss.drop (k+1),Vw n 5000 v:=λv hv=>O v ((List.mem_append.mp hv).elim List.mem_of_mem_take List.mem_of_mem_drop);clear e9 a6 f5 f8 i2 c1 a5 r sA sB sR eA eB;generalize zs.take k++zs.drop (k+1)=rs at eR b2 l4;generalize tss.take k++tss.drop (k+1)=k9 at b2 c4
  try dsimp only[A9,List.set]
  refine⟨_,rfl,_,rfl,_,rfl,_,rfl,_,rfl,b0z Y hk λpA HA sA eA=>?_⟩;refine⟨_,rfl,by show 1<=sizeLine;omega,λpc i8=>?_⟩;have sc:=sA.upd (o:=.tup [.ref oa]) i8;have ec:upd HA pc (.tup [.ref oa]) pc=some (.tup [.ref oa]):=A0;have eA:=((Same.refl HA).upd (o:=.tup [.ref oa]) i8) _ _ eA;generalize upd HA pc (.tup [.ref oa])=HC at sc ec eA;refine⟨pA,pc,_,_,rfl,rfl,eA,ec,by rw[List.length_take];show _+1<=_;omega,λpd HD sD eD=>?_⟩;have h5:=sc.trans sD;refine⟨_,rfl,_,rfl,_,rfl,?_⟩;dsimp only[G4];refine b5j (h5 _ _ Y) (Nat.le_of_lt hk) λpe HE sE eE=>?_;refine⟨pd,pe,_,_,rfl,rfl,sE _ _ eD,eE,by rw[List.length_append,List.length_take,List.length_drop];show _+1+_<=_;omega,λpf HF sF eF=>?_⟩;have b3:=(h5.trans sE).trans sF;have SB:Spt HF n (.ref pf) (tss.take k++[one]++tss.drop k):=⟨pf,_,rfl,eF,(((D.take k).app (Its.nil.snoc ⟨oa,rfl,h0⟩)).app (D.drop k)).same b3,by rw[List.length_append,List.length_append,List.length_take,List.length_drop];show _+1+_<=_;omega,λv hv=>by
   rcases List.mem_append.mp hv with z|z
   .rcases List.mem_append.mp z with z|z
    .exact O v (List.mem_of_mem_take z)
    .rw[List.mem_singleton.mp z];exact I.mono (by omega)
   .exact O v (List.mem_of_mem_drop z)⟩
  clear sc ec eA sD eD sE eE sF eF sA h5;refine a0n (K:=K) (i:=2) (j:=9) (n:=n) rfl rfl (b3 _ _ Y) (D.same b3) (U.same b3) (by omega) n1 O h3 λL o2 g4 SC=>?_;have R:=b3.trans g4;refine a0n (K:=K) (i:=10) (j:=9) (n:=n) rfl rfl (R _ _ eR) (b2.same R) (U.same R) (by omega) n1 c4 h3 λM f9 d7 SD=>?_;have e8:=R.trans d7;refine⟨by show 4<=sizeLine;omega,λg2 h2=>?_⟩;have b1:=(Same.refl f9).upd (o:=.lst [.ref pr,.ref pf,.ref L,.ref M]) h2;have g5:upd f9 g2 (.lst [.ref pr,.ref pf,.ref L,.ref M]) g2=some (.lst [.ref pr,.ref pf,.ref L,.ref M]):=A0;generalize upd f9 g2 (.lst [.ref pr,.ref pf,.ref L,.ref M])=d3 at b1 g5;have X:=e8.trans b1;have GN:Spts d3 n [V.ref pr,.ref pf,.ref L,.ref M]:=λg hg=>by
   simp only[List.mem_cons,List.not_mem_nil,or_false]at hg;rcases hg with rfl|rfl|rfl|rfl
   .exact⟨k9,pr,rs,rfl,X _ _ eR,b2.same X,by omega,c4⟩
   .exact⟨_,SB.tk (Tk.same ((g4.trans d7).trans b1))⟩
   .obtain⟨qss,q⟩:=SC;exact⟨qss,q.tk (Tk.same (d7.trans b1))⟩
   .obtain⟨qss,q⟩:=SD;exact⟨qss,q.tk (Tk.same b1)⟩
  refine⟨g6,g2,_,_,rfl,rfl,X _ _ j2,g5,by show _+4<=_;omega,λh7 i1=>?_⟩;have a7:=(Same.refl d3).upd (o:=.lst (Z++[.ref pr,.ref pf,.ref L,.ref M])) i1;have h6:upd d3 h7 (.lst (Z++[.ref pr,.ref pf,.ref L,.ref M])) h7=some (.lst (Z++[.ref pr,.ref pf,.ref L,.ref M])):=A0;generalize upd d3 h7 (.lst (Z++[.ref pr,.ref pf,.ref L,.ref M]))=l8 at a7 h6;have b7:=X.trans a7;have i4:Spts l8 n (Z++[.ref pr,.ref pf,.ref L,.ref M]):=(l7.tk (Tk.same b7)).app (GN.tk (Tk.same a7));have j9:(Z++[V.ref pr,.ref pf,.ref L,.ref M]).length<=6:=by rw[List.length_append];show _+4<=_;omega
  generalize Z++[V.ref pr,.ref pf,.ref L,.ref M]=f0 at h6 i4 j9;clear SB SC SD GN g4 R d7 e8 b1 X a7 g5 b3
  try dsimp only[A9,List.set]
  refine⟨_,rfl,?_⟩;refine a0n (K:=K) (i:=10) (j:=7) (n:=n) rfl rfl (b7 _ _ eR) (b2.same b7) (d.same b7) (by omega) n1 c4 i7 λL n9 g8 SC=>?_;have a9:=b7.trans g8;refine a0n (K:=K) (i:=10) (j:=8) (n:=n) rfl rfl (a9 _ _ eR) (b2.same a9) (C.same a9) (by omega) n1 c4 i9 λM m5 d9 SD=>?_;have f7:=a9.trans d9;refine⟨_,rfl,_,rfl,_,rfl,b0z (f7 _ _ Y) hk λpA HA sA eA=>?_⟩;have j7:=f7.trans sA;refine⟨_,rfl,_,rfl,_,_,rfl,rfl,_,rfl,?_⟩;dsimp only[G4];refine b4G (j7 _ _ Y) hk λpB HB sB eB=>?_;have l2:=j7.trans sB;refine⟨by show 4<=sizeLine;omega,λg2 h2=>?_⟩;have S:=(Same.refl HB).upd (o:=.lst [.ref L,.ref M,.ref pA,.ref pB]) h2;have k1:upd HB g2 (.lst [.ref L,.ref M,.ref pA,.ref pB]) g2=some (.lst [.ref L,.ref M,.ref pA,.ref pB]):=A0;generalize upd HB g2 (.lst [.ref L,.ref M,.ref pA,.ref pB])=i6 at S k1;have c7:=l2.trans S;have GN:Spts i6 n [V.ref L,.ref M,.ref pA,.ref pB]:=λg hg=>by
   simp only[List.mem_cons,List.not_mem_nil,or_false]at hg;rcases hg with rfl|rfl|rfl|rfl
   .obtain⟨qss,q⟩:=SC;exact⟨qss,q.tk (Tk.same (((d9.trans sA).trans sB).trans S))⟩
   .obtain⟨qss,q⟩:=SD;exact⟨qss,q.tk (Tk.same ((sA.trans sB).trans S))⟩
   .exact⟨tss.take k,pA,_,rfl,(sB.trans S) _ _ eA,(D.take k).same c7,by rw[List.length_take];omega,λv hv=>O v (List.mem_of_mem_take hv)⟩
   .exact⟨tss.drop (k+1),pB,_,rfl,S _ _ eB,(D.drop (k+1)).same c7,by rw[List.length_drop];omega,λv hv=>O v (List.mem_of_mem_drop hv)⟩
  have k0:=((((g8.trans d9).trans sA).trans sB).trans S) _ _ h6;refine⟨h7,g2,_,_,rfl,rfl,k0,k1,by show _+4<=_;omega,λo3 j8=>?_⟩;have h9:=(Same.refl i6).upd (o:=.lst (f0++[.ref L,.ref M,.ref pA,.ref pB])) j8;have f3:=c7.trans h9;refine fin _ _ ⟨o3,f0++[.ref L,.ref M,.ref pA,.ref pB],_,_,_,_,_,_,_,rfl,A0,(i4.tk (Tk.same (((((g8.trans d9).trans sA).trans sB).trans S).trans h9))).app (GN.tk (Tk.same h9)),by rw[List.length_append];show _+4<=_;omega,(j1.same f3).mono (by omega),d1.trans f3.off⟩
end
theorem a8B{rss:LLI}{cs:List (Option Int)}{F W:LLI}{k:Nat}(h:Wk rss cs F W [] k)(m:W.length<=150):∀v∈W,v.length=cs.length/\(∀x∈v,0<=x/\x<=1000)/\0<v.sum:=λv c=>by
 obtain⟨d,b,j,f,p,n,g,o⟩:=h.lv;obtain⟨i,l,e,lv⟩:=b v c;refine⟨lv.len,λx a=>⟨lv.nn x a,?_⟩,by rw[lv.sum];omega⟩;have:=b4R lv.nn x a;rw[lv.sum]at this;omega
section
variable {P:Program}{w:World}{K:PySem.W.Frag}{mg:Str->Option Value}{base:Heap}
theorem sc_law:FnScope ["_law_script","_law_pot_here","_law_turn","_law_rows_here","_law_caps_here","_law_found_here","_law_told","_law_paper","_law_some","_law_left","_law_gone"] ["_law_script"] (A1 a2n):=⟨rfl,rfl,rfl,by decide +kernel,rfl,by decide +kernel,by decide +kernel⟩
theorem b6e{f:Addr}{fd:FuncData}(F':Fun K "law" "law" a2n f fd)(T:Tx mg)(C:Ok P w K mg base "_law_pot" 1 ["_law_script"] (b4F K))(B:Ok P w K mg base "_law_take" 1 ["_law_pot_here","_law_many"] a0M)(l:Ok P w K mg base "_law_system" 9 ["_law_pot_here","_law_most"] a5p)(u:Ok P w K mg base "_law_spoilt" 2 ["_law_pot_here","_law_width_here","_law_told"] a5q)(d:Ok P w K mg base "shows" 6 ["rows","caps","told","paper"] a4l) :
  FnOk P w K mg base CX0 10 f fd ["_law_script"] (a7Q K):=by
 refine F'.okJ sc_law (λvs H Q E h=>?_) (λi6 A outer s H vs Q E hr h=>?_)
 .obtain⟨a,ns,rfl,_⟩:=h;rfl
 .obtain⟨a,ns,rfl,hS,hl,kk⟩:=h;have hu:=hr.u60;refine⟨_,(A3 (B2 (i:=1) sc_law.nd rfl (Or.inl rfl) (A7 C (hr.mono (by omega)) rfl (jaC (jv 0) jaN)))
 (A3 (N1 (J7 rfl T.b_range (jaC A5 jaN)) (A8 (i:=2) sc_law.nd rfl (Or.inl rfl))
 (A3 (a4L (A7 l (hr.mono (by omega)) rfl (jaC (jv 1) (jaC A5 jaN))) (T3 K 3 (B4 (A8 (i:=3) sc_law.nd rfl (Or.inl rfl)) (B4 (A8 (i:=4) sc_law.nd rfl (Or.inl rfl)) (B4 (A8 (i:=5) sc_law.nd rfl (Or.inl rfl)) M6)))))
 (A4 (E8 (a8i (jv 5) a2L)
 (A3 (a4L (jv 5) (T3 K 2 (B4 (A8 (i:=6) sc_law.nd rfl (Or.inr rfl)) (B4 (A8 (i:=7) sc_law.nd rfl (Or.inl rfl)) M6))))
 (A3 (N1 (E6 K (A7 u (hr.mono (by omega)) rfl (jaC (jv 1) (jaC (L3 K rfl T.b_len (jaC (jv 4) jaN)) (jaC (jv 6) jaN))))) (A8 (i:=8) sc_law.nd rfl (Or.inl rfl))
 (A4 (E8 (a4K (a8h (Y0 false (A7 d (hr.mono (by omega)) rfl (jaC (jv 3) (jaC (jv 4) (jaC (jv 8) (jaC (jv 7) jaN))))) N3) (a4J (Y0 false (A7 d (hr.mono (by omega)) rfl (jaC (jv 3) (jaC (jv 4) (jaC (jv 8) (jaC (C5 (jv 7) (jv 8)) jaN))))) N3))))
 (A4 (B0 N3))
 C8)))
 (A3 (a1U (i:=9) sc_law.nd rfl (Or.inl rfl) (N:=["_law_one","_law_told"]) (src:=[none,some 6]) (L1 K (jv 7)) (by show B7 _ _=true;rfl) (by rfl) (by rfl)
 (λ_ _ _ _ _=>(A8 (i:=0) (show(["_law_one","_law_told"]:List Str).Nodup by decide +kernel) rfl (Or.inl rfl))) (λ_ _ _ _ _=>(W0 (a9u K hu (jv 0) (jv 1) (by with_unfolding_all rfl)))) (λ_ _ _ _ _=>(jv 0)))
 (A3 (E8 (a0Y K hu (jv 9) (J1 jaN))
 (A3 (B2 (i:=10) sc_law.nd rfl (Or.inr rfl) (J2 K (jv 9) (A7 B (hr.mono (by omega)) rfl (jaC (jv 1) (jaC (L3 K rfl T.b_len (jaC (jv 9) jaN)) jaN)))))
 (A4 (E8 (Y0 false (A7 d (hr.mono (by omega)) rfl (jaC (jv 3) (jaC (jv 4) (jaC (jv 6) (jaC (B8 K rfl T.b_tuple (jaC (C0 (N:=["_law_one","_law_gone"]) (src:=[none,some 10]) (L1 K (jv 7)) (by show B7 _ _=true;rfl) (by rfl) (by rfl)
 (λ_ _ _ _ _=>(A8 (i:=0) (show(["_law_one","_law_gone"]:List Str).Nodup by decide +kernel) rfl (Or.inl rfl))) (λ_ _ _ _ _=>(W0 (a0Y K hu (jv 0) (jv 1)))) (λ_ _ _ _ _=>(jv 0))) jaN)) jaN))))) N3)
 (A4 (B0 N3))
 C8)))
 C8)
 (A4 (E8 (Y0 true (A7 d (hr.mono (by omega)) rfl (jaC (jv 3) (jaC (jv 4) (jaC (jv 6) (jaC (jv 7) jaN))))) N3)
 (A4 (B0 N3))
 C8))))))
 C8))))
 (A4 (B0 N3)))),?_⟩
  have hz:(3000:Nat)<=sizeLine:=by rw[sizeLine_eq];decide
  refine⟨_,rfl,a,ns,rfl,hS,hl,λp b H1 _ _ d9 _=>?_⟩;refine⟨_,rfl,by decide,by decide,?_⟩;refine a1a (lo:=0) (n:=4) (λi σ H'=>Ex9 λo2 o3 o4 o5 o6 o7 o8 o9 I=>An2 (σ=[some (.ref a),some (.ref p),o2,o3,o4,o5,o6,o7,o8,o9,I]) (PotAt H' p b (10000*i))) ⟨none,none,none,none,none,none,none,none,none,rfl,d9⟩ ?_ ?_
  .rintro i σ H2 hi ⟨o2,o3,o4,o5,o6,o7,o8,o9,I,rfl,hP2⟩;obtain⟨nn,e5⟩:∃nn,nn=10000*i:=⟨_,rfl⟩;rw[<-e5]at hP2;have i3:nn+40000<2 ^ 60:=by omega
   try dsimp only[A9,List.set]
   refine⟨_,rfl,p,b,_,150,_,rfl,rfl,by decide,hP2,by omega,λq3 ra ca fv rss cs H3 e4 Y3 n8 i2 f4 b5 g5=>?_⟩;refine⟨q3,_,rfl,SqT.of e4,rfl,.ref ra,[.ref ca,fv],rfl,.ref ca,[fv],rfl,fv,[],rfl,rfl,?_⟩
   try dsimp only[A9,List.set]
   obtain⟨us,y1,y2,y3⟩:=Y3.ex;have a4:∀r∈rss,r.length=cs.length:=λr e6=>(Y3.hR r e6).1;rcases f4 with rfl|⟨q,t,pp,zs,tss,ws,F,W,k,rfl,eq,et,hI,U,c4,f6,hW,wk,f1⟩
   .exact⟨_,rfl,rfl,_,rfl,D6 ⟨_,_,_,_,_,_,_,_,_,rfl,b5.mono (by omega)⟩⟩
   refine⟨_,rfl,rfl,_,rfl,F0 ?_⟩;refine⟨_,rfl,q,_,rfl,SqT.of eq,rfl,.ref t,[.ref pp],rfl,.ref pp,[],rfl,rfl,?_⟩
   try dsimp only[A9,List.set]
   have D:=a8B wk (by omega);have a1:∀v∈tss,v∈W:=λv c=>(wk.lv.2.2.1 v (U.mem_iff.mp c)).1;have f2:zs.length<=150:=by
    rw[hI.1,U.length_eq];have:=wk.lv.2.2.2;omega
   have i0:ws.length<=150:=by rw[hW.1];omega
   have pap:=wk.pap a4;have g3:∀v∈tss,(tss.any λt=>Bel t v)=true:=λv c=>List.any_eq_true.mpr ⟨v,c,(C1 rfl).mpr (Under.refl v)⟩;refine⟨_,rfl,_,rfl,ca,_,rfl,.inr (SqT.of Y3.hc),_,rfl,p,b,t,_,cs.length,_,zs,tss,rfl,by rw[List.length_map],b5,by omega,Y3.n1,n8,et,hI,f2,λv c=>⟨(D v (a1 v c)).1,(D v (a1 v c)).2.1⟩,λg gs H4 eg hG e0 c1=>?_⟩;have G:=Tk.pot b5 c1;have e2:=G _ _ y1;have f7:=G.its y2;have d6:=G _ _ Y3.hc;have b7:=G _ _ et;have b0:=G.its hI;have m:=G _ _ f6;have S:=G.its hW;have vW:∀v∈W,v.length<=1000/\Sm v:=λv c=>⟨by rw[(D v c).1];omega,λz hz=>by have:=(D v c).2.1 z hz;omega⟩;have sh:∀{H':Hp}{Q':VK}{E':XK}{tt pa:Addr}{ts ps:List V}{R pss:LLI},Tk H4 H'->H' tt=some (.tup ts)->Its H' ts R->ts.length<=1000->H' pa=some (.tup ps)->Its H' ps pss->ps.length<=5000->(∀v∈R++pss,v.length<=1000/\Sm v)->(∀b' d1,Same H' d1->(b'=true↔Shw rss cs R pss)->Q' (.bl b') d1)->a4l [.ref ra,.ref ca,.ref tt,.ref pa] H' Q' E':=λs h1 h2 h3 h4 h5 h6 h7 k' =>
    ⟨ra,ca,_,_,us,_,_,rss,_,_,cs,rfl,s _ _ e2,s.its f7,y3,s _ _ d6,Y3.n1,by omega,Y3.hR,h1,h2,h3,h4,h5,by omega,h7,k'⟩
   refine⟨g,rfl,⟨_,SqL.of eg⟩,?_⟩;refine N4 (K:=K) (a:=g) (xs:=gs) (λj σ H'=>Ex1 λo8=>An2 (σ=[some (.ref a),some (.ref p),some (.int (0+i)),some (.ref ra),some (.ref ca),some (.ref q),some (.ref t),some (.ref pp),o8,o9,I]) (Same H4 H')) ⟨_,rfl,Same.refl _⟩ (λj σ H' _ h=>by obtain⟨_,_,s'⟩:=h;exact SqL.of (s' _ _ eg)) ?_ ?_
   .rintro j x σ H5 hx ⟨o8,rfl,s5⟩;obtain⟨R,⟨gp,f8,rfl,b6,b2,c2,c9⟩,b8⟩:=hG x (List.mem_of_getElem? hx);have d0:∀{b':Bool}{pss:LLI},(b'=true↔Shw rss cs R pss)->b'=false:=λ{b' pss} hb=>by
     cases b' with
     |false=>rfl
     |true=>exact absurd (b2T a4 wk U c4 (hb.mp rfl)) b8
    have gV:∀v∈R,v.length<=1000/\Sm v:=λv c=>⟨by rw[(c9 v c).1];omega,λz hz=>by have:=(c9 v c).2 z hz;omega⟩
    try dsimp only[A9,List.set]
    refine⟨_,rfl,_,rfl,_,rfl,_,rfl,sh (Tk.same s5) (s5 _ _ b6) (b2.same s5) c2 (s5 _ _ m) (S.same s5) (by omega) (λv c=>(List.mem_append.mp c).elim (gV v) (vW v)) λb' H6 s6 hb=>?_⟩;rw[d0 hb];refine⟨rfl,_,rfl,D6 ?_⟩;have M:=s5.trans s6;refine⟨_,rfl,_,rfl,_,rfl,_,rfl,_,rfl,pp,gp,ws,f8,rfl,rfl,M _ _ m,M _ _ b6,by omega,λp7 H7 s7 e7=>?_⟩;have y:=M.trans s7;refine sh (Tk.same y) (y _ _ b6) (b2.same y) c2 e7 ((S.app b2).same y) (by rw[List.length_append];omega) (λv c=>?_) λb' H8 s8 hb=>?_
    .rcases List.mem_append.mp c with z|z
     .exact gV v z
     .exact(List.mem_append.mp z).elim (vW v) (gV v)
    rw[d0 hb];exact⟨rfl,_,rfl,D6 ⟨_,rfl,y.trans s8⟩⟩
   .rintro σ H5 ⟨o8,rfl,s5⟩;have d5:=e0.same s5;refine⟨_,rfl,pp,rfl,⟨_,SqT.of (s5 _ _ m)⟩,?_⟩;refine a3u (caps:=[some (.ref t)]) (λr=>!decide (r∈tss)) (by omega) (λH' s=>SqT.of (s _ _ (s5 _ _ m))) (S.same s5) rfl (λv r H6 Q6 i4 g1 s6 q6=>?_) λH6 pl ls s6 d4 O=>?_
    .obtain⟨va,rfl,hva⟩:=g1;have M:=s5.trans s6;exact⟨_,rfl,_,rfl,va,t,r,true,zs,tss,rfl,hva,rfl,SqT.of (M _ _ b7),b0.same M,_,rfl,q6 _ (Same.refl _)⟩
    have s7:=(Same.refl H6).upd (o:=.lst ls) d4;have y:=s6.trans s7;have e7:upd H6 pl (.lst ls) pl=some (.lst ls):=A0;have O:=O.same s7;have c5:=I9 (d5.same s6) d4;generalize upd H6 pl (.lst ls)=H7 at s7 y e7 O;have d8:=s5.trans y;have i5:ls.length<=150:=by
     rw[O.1];have:=List.length_filter_le (λr=>!decide (r∈tss)) W;rw[<-hW.1]at this;omega
    try dsimp only[A9,List.set]
    have f0:=d5.same y;refine X1 (λσ H'=>Ex3 λo8 o9 I=>An3 (σ=[some (.ref a),some (.ref p),some (.int (0+i)),some (.ref ra),some (.ref ca),some (.ref q),some (.ref t),some (.ref pp),o8,o9,I]) (Tk H4 H') (PotAt H' p b (nn+5000))) ?fin λfin=>?_
    case fin =>
     rintro σ H8 ⟨o8,o9,I,rfl,a0,L⟩;refine⟨_,rfl,_,rfl,_,rfl,_,rfl,sh a0 (a0 _ _ b7) (a0.its b0) (by omega) (a0 _ _ m) (a0.its S) (by omega) (λv c=>(List.mem_append.mp c).elim (λz=>vW v (a1 v z)) (vW v)) λb' H9 s9 hb=>?_⟩;rw[hb.mpr (b2S a4 wk U c4 (λv c=>⟨(D v c).1,λx hx=>((D v c).2.1 x hx).1,(D v c).2.2,pap.wi v c⟩) (λv c=>.inl c) λv c=>.inl c)];exact⟨rfl,_,rfl,D6 ⟨_,_,_,_,_,_,_,_,_,rfl,(L.same s9).mono (by omega)⟩⟩
    refine⟨_,rfl,Nat.zero_le _,λp8 f9=>?_⟩;have s8:=(Same.refl H7).upd (o:=.lst []) f9;have e8:upd H7 p8 (.lst []) p8=some (.lst []):=A0;have a9:=d8.trans s8;have L:=f0.same s8;have Z:=O.same s8;have a3:=s8 _ _ e7;generalize upd H7 p8 (.lst [])=H8 at s8 e8 a9 L Z a3;refine⟨2,_,by decide,EqV.its (k:=false) (SqL.of a3) (SqL.of e8) Z .nil,⟨_,_,rfl,rfl⟩,_,rfl,a3n (λe=>?_) (λe=>fin _ _ ⟨_,_,_,rfl,Tk.same a9,L.mono (by omega)⟩)⟩;have b8:W.filter (λr=>!decide (r∈tss))≠[]:=by simpa using e
    have g8:0<ls.length:=by rw[O.1];exact List.length_pos_iff.mpr b8
    refine⟨_,rfl,_,rfl,_,rfl,pl,_,rfl,.inl (SqL.of a3),p,b,_,_,rfl,L,by omega,by omega,by omega,λr9 H9 h8 i1 d7 a5=>?_⟩;obtain⟨j,rfl⟩:∃j:Nat,r9=j:=⟨r9.toNat,by omega⟩;have hj:j<ls.length:=by omega
    have e9:=a5 _ _ c5 a3;have a7:=Tk.pot L a5;have a2:=(Tk.same a9).trans a7;have d2:=a7.its Z;obtain⟨X,g0,h9,ga,f3,e1⟩:=d2.mem (List.getElem?_eq_getElem hj);obtain⟨e3,b4⟩:=List.mem_filter.mp g0;have b4:X∉tss:=by simpa using b4
    refine⟨pl,_,_,_,rfl,rfl,SqL.of e9,Z2 (List.getElem?_eq_getElem hj),?_⟩;rw[f3]
    try dsimp only[A9,List.set]
    refine⟨_,rfl,_,rfl,_,rfl,_,rfl,pp,rfl,⟨_,SqT.of (a2 _ _ m)⟩,?_⟩;refine a3u (caps:=[some (.ref ga)]) (λr=>!decide (r=X)) (by omega) (λH' s=>SqT.of (s _ _ (a2 _ _ m))) (a2.its S) rfl (λv r b1 g7 g4 c7 b9 f5=>?_) λb1 b3 fs b9 d3 Y=>?_
    .obtain⟨va,rfl,hva⟩:=c7;exact⟨_,rfl,_,rfl,1,_,by decide,EqV.ints (k:=true) (SqT.of hva) (SqT.of (b9 _ _ e1)),⟨_,_,rfl,rfl⟩,_,rfl,f5 _ (Same.refl _)⟩
    refine⟨b3,fs,rfl,.inl ⟨SqL.of A0,λc0 c3=>?_⟩⟩;have a8:=((Same.refl b1).upd (o:=.lst fs) d3).upd (o:=.tup fs) c3;have c8:upd (upd b1 b3 (.lst fs)) c0 (.tup fs) c0=some (.tup fs):=A0;have Y:=Y.same a8;generalize upd (upd b1 b3 (.lst fs)) c0 (.tup fs)=g6 at a8 c8 Y;have a6:=b9.trans a8;have J:=a2.trans (Tk.same a6);have g9:fs.length<=150:=by
     rw[Y.1];have:=List.length_filter_le (λr=>!decide (r=X)) W;rw[<-hW.1]at this;omega
    refine sh J (J _ _ b7) (J.its b0) (by omega) c8 Y (by omega) (λv c=>(List.mem_append.mp c).elim (λz=>vW v (a1 v z)) λz=>vW v (List.mem_filter.mp z).1) λb' h0 c6 hb=>?_;have g2:b'=false:=by
     cases b' with
     |false=>rfl
     |true=>exact absurd (hb.mp rfl) (b0C a4 wk U e3 b4 λv=>by rw[List.mem_filter];simp)
    rw[g2];exact⟨rfl,_,rfl,D6 (fin _ _ ⟨_,_,_,rfl,J.trans (Tk.same c6),((d7.same a6).same c6).mono (by omega)⟩)⟩
  .rintro σ H9 ⟨o2,o3,o4,o5,o6,o7,o8,o9,I,rfl,_⟩;exact kk H9
end
open PySem.W
theorem all_mk{l:PySem.W.OpenLaw}{w:World}{K:PySem.W.Frag}{h:Heap}{mg:Str->Option Value}{fa:Addr}(X:K.In h)(G:h.Ns mainGlobals mg)(S:mg "law"=some (.ref fa))
 (a1:nsIn K mainGlobals "within"=some (some (.ref f1))) (l1:FnL K f1 "within" "within" a0p o1 d1 s1 v1 x1 p1 n1 c1 t1) (c_1:codeIn K c1 "within"=true) (k1:keepIn K (.ref f1)=true)
 (a2:nsIn K mainGlobals "is_number"=some (some (.ref f2))) (l2:FnL K f2 "is_number" "is_number" O0 o2 d2 s2 v2 x2 p2 n2 c2 t2) (c_2:codeIn K c2 "is_number"=true) (k2:keepIn K (.ref f2)=true)
 (a3:nsIn K mainGlobals "is_vector"=some (some (.ref f3))) (l3:FnL K f3 "is_vector" "is_vector" N9 o3 d3 s3 v3 x3 p3 n3 c3 t3) (c_3:codeIn K c3 "is_vector"=true) (k3:keepIn K (.ref f3)=true)
 (a4:nsIn K mainGlobals "are_vectors"=some (some (.ref f4))) (l4:FnL K f4 "are_vectors" "are_vectors" K0 o4 d4 s4 v4 x4 p4 n4 c4 t4) (c_4:codeIn K c4 "are_vectors"=true) (k4:keepIn K (.ref f4)=true)
 (a5:nsIn K mainGlobals "row_sum"=some (some (.ref f5))) (l5:FnL K f5 "row_sum" "row_sum" X2 o5 d5 s5 v5 x5 p5 n5 c5 t5) (c_5:codeIn K c5 "row_sum"=true) (k5:keepIn K (.ref f5)=true)
 (a6:nsIn K mainGlobals "sums"=some (some (.ref f6))) (l6:FnL K f6 "sums" "sums" a4x o6 d6 s6 v6 x6 p6 n6 c6 t6) (c_6:codeIn K c6 "sums"=true) (k6:keepIn K (.ref f6)=true)
 (a7:nsIn K mainGlobals "is_answer"=some (some (.ref f7))) (l7:FnL K f7 "is_answer" "is_answer" O2 o7 d7 s7 v7 x7 p7 n7 c7 t7) (c_7:codeIn K c7 "is_answer"=true) (k7:keepIn K (.ref f7)=true)
 (a8:nsIn K mainGlobals "pull_of"=some (some (.ref f8))) (l8:FnL K f8 "pull_of" "pull_of" X4 o8 d8 s8 v8 x8 p8 n8 c8 t8) (c_8:codeIn K c8 "pull_of"=true) (k8:keepIn K (.ref f8)=true)
 (a9:nsIn K mainGlobals "falls"=some (some (.ref f9))) (l9:FnL K f9 "falls" "falls" a1P o9 d9 s9 v9 x9 p9 n9 c9 t9) (c_9:codeIn K c9 "falls"=true) (k9:keepIn K (.ref f9)=true)
 (a10:nsIn K mainGlobals "below"=some (some (.ref f10))) (l10:FnL K f10 "below" "below" a1Q o10 d10 s10 v10 x10 p10 n10 c10 t10) (c_10:codeIn K c10 "below"=true) (k10:keepIn K (.ref f10)=true)
 (a11:nsIn K mainGlobals "unit"=some (some (.ref f11))) (l11:FnL K f11 "unit" "unit" a4w o11 d11 s11 v11 x11 p11 n11 c11 t11) (c_11:codeIn K c11 "unit"=true) (k11:keepIn K (.ref f11)=true)
 (a12:nsIn K mainGlobals "least_of"=some (some (.ref f12))) (l12:FnL K f12 "least_of" "least_of" S0 o12 d12 s12 v12 x12 p12 n12 c12 t12) (c_12:codeIn K c12 "least_of"=true) (k12:keepIn K (.ref f12)=true)
 (a13:nsIn K mainGlobals "above_any"=some (some (.ref f13))) (l13:FnL K f13 "above_any" "above_any" K8 o13 d13 s13 v13 x13 p13 n13 c13 t13) (c_13:codeIn K c13 "above_any"=true) (k13:keepIn K (.ref f13)=true)
 (a14:nsIn K mainGlobals "first_steps"=some (some (.ref f14))) (l14:FnL K f14 "first_steps" "first_steps" J9 o14 d14 s14 v14 x14 p14 n14 c14 t14) (c_14:codeIn K c14 "first_steps"=true) (k14:keepIn K (.ref f14)=true)
 (a15:nsIn K mainGlobals "raised"=some (some (.ref f15))) (l15:FnL K f15 "raised" "raised" a0q o15 d15 s15 v15 x15 p15 n15 c15 t15) (c_15:codeIn K c15 "raised"=true) (k15:keepIn K (.ref f15)=true)
 (a16:nsIn K mainGlobals "steps"=some (some (.ref f16))) (l16:FnL K f16 "steps" "steps" a1M o16 d16 s16 v16 x16 p16 n16 c16 t16) (c_16:codeIn K c16 "steps"=true) (k16:keepIn K (.ref f16)=true)
 (a17:nsIn K mainGlobals "all_fit"=some (some (.ref f17))) (l17:FnL K f17 "all_fit" "all_fit" X6 o17 d17 s17 v17 x17 p17 n17 c17 t17) (c_17:codeIn K c17 "all_fit"=true) (k17:keepIn K (.ref f17)=true)
 (a18:nsIn K mainGlobals "are_least"=some (some (.ref f18))) (l18:FnL K f18 "are_least" "are_least" O3 o18 d18 s18 v18 x18 p18 n18 c18 t18) (c_18:codeIn K c18 "are_least"=true) (k18:keepIn K (.ref f18)=true)
 (a19:nsIn K mainGlobals "is_met"=some (some (.ref f19))) (l19:FnL K f19 "is_met" "is_met" a0r o19 d19 s19 v19 x19 p19 n19 c19 t19) (c_19:codeIn K c19 "is_met"=true) (k19:keepIn K (.ref f19)=true)
 (a20:nsIn K mainGlobals "goes_on"=some (some (.ref f20))) (l20:FnL K f20 "goes_on" "goes_on" X5 o20 d20 s20 v20 x20 p20 n20 c20 t20) (c_20:codeIn K c20 "goes_on"=true) (k20:keepIn K (.ref f20)=true)
 (a21:nsIn K mainGlobals "shows"=some (some (.ref f21))) (l21:FnL K f21 "shows" "shows" a1N o21 d21 s21 v21 x21 p21 n21 c21 t21) (c_21:codeIn K c21 "shows"=true) (k21:keepIn K (.ref f21)=true)
 (a22:nsIn K mainGlobals "is_barred"=some (some (.ref f22))) (l22:FnL K f22 "is_barred" "is_barred" O1 o22 d22 s22 v22 x22 p22 n22 c22 t22) (c_22:codeIn K c22 "is_barred"=true) (k22:keepIn K (.ref f22)=true)
 (a23:nsIn K mainGlobals "next_level"=some (some (.ref f23))) (l23:FnL K f23 "next_level" "next_level" L9 o23 d23 s23 v23 x23 p23 n23 c23 t23) (c_23:codeIn K c23 "next_level"=true) (k23:keepIn K (.ref f23)=true)
 (a24:nsIn K mainGlobals "least"=some (some (.ref f24))) (l24:FnL K f24 "least" "least" a1O o24 d24 s24 v24 x24 p24 n24 c24 t24) (c_24:codeIn K c24 "least"=true) (k24:keepIn K (.ref f24)=true)
 (a25:nsIn K mainGlobals "_law_pot"=some (some (.ref f25))) (l25:FnL K f25 "_law_pot" "_law_pot" S5 o25 d25 s25 v25 x25 p25 n25 c25 t25) (c_25:codeIn K c25 "_law_pot"=true) (k25:keepIn K (.ref f25)=true)
 (a26:nsIn K mainGlobals "_law_take"=some (some (.ref f26))) (l26:FnL K f26 "_law_take" "_law_take" O4 o26 d26 s26 v26 x26 p26 n26 c26 t26) (c_26:codeIn K c26 "_law_take"=true) (k26:keepIn K (.ref f26)=true)
 (a27:nsIn K mainGlobals "_law_width"=some (some (.ref f27))) (l27:FnL K f27 "_law_width" "_law_width" M0 o27 d27 s27 v27 x27 p27 n27 c27 t27) (c_27:codeIn K c27 "_law_width"=true) (k27:keepIn K (.ref f27)=true)
 (a28:nsIn K mainGlobals "_law_rows"=some (some (.ref f28))) (l28:FnL K f28 "_law_rows" "_law_rows" O5 o28 d28 s28 v28 x28 p28 n28 c28 t28) (c_28:codeIn K c28 "_law_rows"=true) (k28:keepIn K (.ref f28)=true)
 (a29:nsIn K mainGlobals "_law_caps"=some (some (.ref f29))) (l29:FnL K f29 "_law_caps" "_law_caps" O6 o29 d29 s29 v29 x29 p29 n29 c29 t29) (c_29:codeIn K c29 "_law_caps"=true) (k29:keepIn K (.ref f29)=true)
 (a30:nsIn K mainGlobals "_law_found"=some (some (.ref f30))) (l30:FnL K f30 "_law_found" "_law_found" M1 o30 d30 s30 v30 x30 p30 n30 c30 t30) (c_30:codeIn K c30 "_law_found"=true) (k30:keepIn K (.ref f30)=true)
 (a31:nsIn K mainGlobals "_law_system"=some (some (.ref f31))) (l31:FnL K f31 "_law_system" "_law_system" K1 o31 d31 s31 v31 x31 p31 n31 c31 t31) (c_31:codeIn K c31 "_law_system"=true) (k31:keepIn K (.ref f31)=true)
 (a32:nsIn K mainGlobals "_law_sum"=some (some (.ref f32))) (l32:FnL K f32 "_law_sum" "_law_sum" S3 o32 d32 s32 v32 x32 p32 n32 c32 t32) (c_32:codeIn K c32 "_law_sum"=true) (k32:keepIn K (.ref f32)=true)
 (a33:nsIn K mainGlobals "_law_spoilt"=some (some (.ref f33))) (l33:FnL K f33 "_law_spoilt" "_law_spoilt" K2 o33 d33 s33 v33 x33 p33 n33 c33 t33) (c_33:codeIn K c33 "_law_spoilt"=true) (k33:keepIn K (.ref f33)=true)
 (a34:nsIn K mainGlobals "law"=some (some (.ref f34))) (l34:FnL K f34 "law" "law" a2n o34 d34 s34 v34 x34 p34 n34 c34 t34) (c_34:codeIn K c34 "law"=true) (k34:keepIn K (.ref f34)=true)
  (z1:PySem.W.nsIn K mainGlobals "ValueError"=some none) (z2:PySem.W.nsIn K mainGlobals "all"=some none) (z3:PySem.W.nsIn K mainGlobals "any"=some none) (z4:PySem.W.nsIn K mainGlobals "bool"=some none) (z5:PySem.W.nsIn K mainGlobals "dict"=some none) (z6:PySem.W.nsIn K mainGlobals "int"=some none) (z7:PySem.W.nsIn K mainGlobals "isinstance"=some none) (z8:PySem.W.nsIn K mainGlobals "len"=some none) (z9:PySem.W.nsIn K mainGlobals "list"=some none) (z10:PySem.W.nsIn K mainGlobals "max"=some none) (z11:PySem.W.nsIn K mainGlobals "range"=some none) (z12:PySem.W.nsIn K mainGlobals "set"=some none) (z13:PySem.W.nsIn K mainGlobals "sorted"=some none) (z14:PySem.W.nsIn K mainGlobals "sum"=some none) (z15:PySem.W.nsIn K mainGlobals "tuple"=some none) (z16:PySem.W.nsIn K mainGlobals "zip"=some none)
  {g:Addr}(aD_TooMany:PySem.W.nsIn K mainGlobals "TooMany"=some (some (.ref g))) {a:Addr}(aD_Finder:PySem.W.nsIn K mainGlobals "Finder"=some (some (.ref a))) {x r:Str}{f:Addr}{D c p:List Value}{A C:Bool}{u:List Str}{o:Option Bool}{z:Option Addr}{y B E q t:Option Value}(lx_TooMany:K.lookup g=some (excClassObj x r g f D c A u p C o z y B E q t "ValueError.__new__")) (tx_TooMany:PySem.W.tailIn K [.type "ValueError",.type "Exception",.type "BaseException",.type "object"] c=true) (ok_TooMany:PySem.W.nsOkIn K f=true) (in_TooMany:PySem.W.nsIn K f "__init__"=some none) (be_TooMany:c.contains (.type "BaseException")=true) (pg_Finder:PySem.W.plainGet K a Str.empty=true) (hd_Finder:PySem.W.hasDictIn K a=true) (po_Finder:PySem.W.plainOver K a=true) (sa_Finder:PySem.W.findIn K (.ref a) "__setattr__"=some (some (.builtin "object.__setattr__"))) (mk_Finder:PySem.W.makesIn K a=true) (kc_Finder:PySem.W.keepIn K (.ref a)=true) (n_Finder_rows:PySem.W.findIn K (.ref a) "rows"=some none) (n_Finder_caps:PySem.W.findIn K (.ref a) "caps"=some none) (n_Finder_begun:PySem.W.findIn K (.ref a) "begun"=some none) (n_Finder_here:PySem.W.findIn K (.ref a) "here"=some none) (n_Finder_found:PySem.W.findIn K (.ref a) "found"=some none) (n_Finder_walked:PySem.W.findIn K (.ref a) "walked"=some none) (a_Finder___init__:findIn K (.ref a) "__init__"=some (some (.ref f_Finder___init__))) (i_Finder___init__:isFn K (.ref f_Finder___init__)=true) (l_Finder___init__:FnL K f_Finder___init__ "__init__" "Finder.__init__" D7 o_Finder___init__ d_Finder___init__ s0_Finder___init__ v_Finder___init__ x_Finder___init__ p_Finder___init__ n0_Finder___init__ c0_Finder___init__ t_Finder___init__) (c_Finder___init__:codeIn K c0_Finder___init__ "Finder.__init__"=true) (k_Finder___init__:keepIn K (.ref f_Finder___init__)=true) (a_Finder_step:findIn K (.ref a) "step"=some (some (.ref f_Finder_step))) (i_Finder_step:isFn K (.ref f_Finder_step)=true) (l_Finder_step:FnL K f_Finder_step "step" "Finder.step" Z7 o_Finder_step d_Finder_step s0_Finder_step v_Finder_step x_Finder_step p_Finder_step n0_Finder_step c0_Finder_step t_Finder_step) (c_Finder_step:codeIn K c0_Finder_step "Finder.step"=true) (k_Finder_step:keepIn K (.ref f_Finder_step)=true) (a_Finder_step_within:findIn K (.ref a) "step_within"=some (some (.ref f_Finder_step_within))) (i_Finder_step_within:isFn K (.ref f_Finder_step_within)=true) (l_Finder_step_within:FnL K f_Finder_step_within "step_within" "Finder.step_within" C2 o_Finder_step_within d_Finder_step_within s0_Finder_step_within v_Finder_step_within x_Finder_step_within p_Finder_step_within n0_Finder_step_within c0_Finder_step_within t_Finder_step_within) (c_Finder_step_within:codeIn K c0_Finder_step_within "Finder.step_within"=true) (k_Finder_step_within:keepIn K (.ref f_Finder_step_within)=true) (a_Finder_level:findIn K (.ref a) "level"=some (some (.ref f_Finder_level))) (i_Finder_level:isFn K (.ref f_Finder_level)=true) (l_Finder_level:FnL K f_Finder_level "level" "Finder.level" V4 o_Finder_level d_Finder_level s0_Finder_level v_Finder_level x_Finder_level p_Finder_level n0_Finder_level c0_Finder_level t_Finder_level) (c_Finder_level:codeIn K c0_Finder_level "Finder.level"=true) (k_Finder_level:keepIn K (.ref f_Finder_level)=true) (a_Finder_told:findIn K (.ref a) "told"=some (some (.ref f_Finder_told))) (i_Finder_told:isFn K (.ref f_Finder_told)=true) (l_Finder_told:FnL K f_Finder_told "told" "Finder.told" K3 o_Finder_told d_Finder_told s0_Finder_told v_Finder_told x_Finder_told p_Finder_told n0_Finder_told c0_Finder_told t_Finder_told) (c_Finder_told:codeIn K c0_Finder_told "Finder.told"=true) (k_Finder_told:keepIn K (.ref f_Finder_told)=true) (a_Finder_paper:findIn K (.ref a) "paper"=some (some (.ref f_Finder_paper))) (i_Finder_paper:isFn K (.ref f_Finder_paper)=true) (l_Finder_paper:FnL K f_Finder_paper "paper" "Finder.paper" G5 o_Finder_paper d_Finder_paper s0_Finder_paper v_Finder_paper x_Finder_paper p_Finder_paper n0_Finder_paper c0_Finder_paper t_Finder_paper) (c_Finder_paper:codeIn K c0_Finder_paper "Finder.paper"=true) (k_Finder_paper:keepIn K (.ref f_Finder_paper)=true) (a_Finder_ended:findIn K (.ref a) "ended"=some (some (.ref f_Finder_ended))) (i_Finder_ended:isFn K (.ref f_Finder_ended)=true) (l_Finder_ended:FnL K f_Finder_ended "ended" "Finder.ended" G8 o_Finder_ended d_Finder_ended s0_Finder_ended v_Finder_ended x_Finder_ended p_Finder_ended n0_Finder_ended c0_Finder_ended t_Finder_ended) (c_Finder_ended:codeIn K c0_Finder_ended "Finder.ended"=true) (k_Finder_ended:keepIn K (.ref f_Finder_ended)=true) :
  ∃fd:FuncData,(∀(s:Shared) (v:Value),BindsTo s fd ⟨[v],[]⟩ [("_law_script",v)])/\∀base:Heap,K.In base->base.Ns mainGlobals mg->FnOk l.prog w K mg base CX0 10 fa fd ["_law_script"] (a7Q K):=by
 have e:=S.symm.trans (PySem.W.mg_of X G a34);cases e;have T:Tx mg:=⟨PySem.W.mg_none_of X G z1,PySem.W.mg_none_of X G z2,PySem.W.mg_none_of X G z3,PySem.W.mg_none_of X G z4,PySem.W.mg_none_of X G z5,PySem.W.mg_none_of X G z6,PySem.W.mg_none_of X G z7,PySem.W.mg_none_of X G z8,PySem.W.mg_none_of X G z9,PySem.W.mg_none_of X G z10,PySem.W.mg_none_of X G z11,PySem.W.mg_none_of X G z12,PySem.W.mg_none_of X G z13,PySem.W.mg_none_of X G z14,PySem.W.mg_none_of X G z15,PySem.W.mg_none_of X G z16⟩;have F1:FunAt K mg "within" a0p ["caps","one"]:=B9 X G a1 l1 c_1 k1 λ_ _ _ _ _ _ us hl=>by obtain⟨_,_,rfl⟩:=Q9 hl;rfl
 have F2:FunAt K mg "is_number" O0 ["value"]:=B9 X G a2 l2 c_2 k2 λ_ _ _ _ _ _ us hl=>by obtain⟨_,rfl⟩:=a2D hl;rfl
 have F3:FunAt K mg "is_vector" N9 ["value","width"]:=B9 X G a3 l3 c_3 k3 λ_ _ _ _ _ _ us hl=>by obtain⟨_,_,rfl⟩:=Q9 hl;rfl
 have F4:FunAt K mg "are_vectors" K0 ["value","width"]:=B9 X G a4 l4 c_4 k4 λ_ _ _ _ _ _ us hl=>by obtain⟨_,_,rfl⟩:=Q9 hl;rfl
 have F5:FunAt K mg "row_sum" X2 ["row","one"]:=B9 X G a5 l5 c_5 k5 λ_ _ _ _ _ _ us hl=>by obtain⟨_,_,rfl⟩:=Q9 hl;rfl
 have F6:FunAt K mg "sums" a4x ["rows","one"]:=B9 X G a6 l6 c_6 k6 λ_ _ _ _ _ _ us hl=>by obtain⟨_,_,rfl⟩:=Q9 hl;rfl
 have F7:FunAt K mg "is_answer" O2 ["rows","one"]:=B9 X G a7 l7 c_7 k7 λ_ _ _ _ _ _ us hl=>by obtain⟨_,_,rfl⟩:=Q9 hl;rfl
 have F8:FunAt K mg "pull_of" X4 ["rows","totals","j"]:=B9 X G a8 l8 c_8 k8 λ_ _ _ _ _ _ us hl=>by obtain⟨_,_,_,rfl⟩:=a4I hl;rfl
 have F9:FunAt K mg "falls" a1P ["rows","one"]:=B9 X G a9 l9 c_9 k9 λ_ _ _ _ _ _ us hl=>by obtain⟨_,_,rfl⟩:=Q9 hl;rfl
 have O:FunAt K mg "below" a1Q ["one","other"]:=B9 X G a10 l10 c_10 k10 λ_ _ _ _ _ _ us hl=>by obtain⟨_,_,rfl⟩:=Q9 hl;rfl
 have R:FunAt K mg "unit" a4w ["width","j"]:=B9 X G a11 l11 c_11 k11 λ_ _ _ _ _ _ us hl=>by obtain⟨_,_,rfl⟩:=Q9 hl;rfl
 have b2:FunAt K mg "least_of" S0 ["some"]:=B9 X G a12 l12 c_12 k12 λ_ _ _ _ _ _ us hl=>by obtain⟨_,rfl⟩:=a2D hl;rfl
 have L:FunAt K mg "above_any" K8 ["some","one"]:=B9 X G a13 l13 c_13 k13 λ_ _ _ _ _ _ us hl=>by obtain⟨_,_,rfl⟩:=Q9 hl;rfl
 have b0:FunAt K mg "first_steps" J9 ["caps"]:=B9 X G a14 l14 c_14 k14 λ_ _ _ _ _ _ us hl=>by obtain⟨_,rfl⟩:=a2D hl;rfl
 have c0:FunAt K mg "raised" a0q ["one","j"]:=B9 X G a15 l15 c_15 k15 λ_ _ _ _ _ _ us hl=>by obtain⟨_,_,rfl⟩:=Q9 hl;rfl
 have V:FunAt K mg "steps" a1M ["rows","caps","one"]:=B9 X G a16 l16 c_16 k16 λ_ _ _ _ _ _ us hl=>by obtain⟨_,_,_,rfl⟩:=a4I hl;rfl
 have U:FunAt K mg "all_fit" X6 ["caps","some"]:=B9 X G a17 l17 c_17 k17 λ_ _ _ _ _ _ us hl=>by obtain⟨_,_,rfl⟩:=Q9 hl;rfl
 have b7:FunAt K mg "are_least" O3 ["rows","told"]:=B9 X G a18 l18 c_18 k18 λ_ _ _ _ _ _ us hl=>by obtain⟨_,_,rfl⟩:=Q9 hl;rfl
 have b5:FunAt K mg "is_met" a0r ["told","listed","one"]:=B9 X G a19 l19 c_19 k19 λ_ _ _ _ _ _ us hl=>by obtain⟨_,_,_,rfl⟩:=a4I hl;rfl
 have b1:FunAt K mg "goes_on" X5 ["rows","caps","told","listed","one"]:=B9 X G a20 l20 c_20 k20 λ_ _ _ _ _ _ us hl=>by obtain⟨_,_,_,_,_,rfl⟩:=b7s hl;rfl
 have d0:FunAt K mg "shows" a1N ["rows","caps","told","paper"]:=B9 X G a21 l21 c_21 k21 λ_ _ _ _ _ _ us hl=>by obtain⟨_,_,_,_,rfl⟩:=b7t hl;rfl
 have Q:FunAt K mg "is_barred" O1 ["found","one","j"]:=B9 X G a22 l22 c_22 k22 λ_ _ _ _ _ _ us hl=>by obtain⟨_,_,_,rfl⟩:=a4I hl;rfl
 have b4:FunAt K mg "next_level" L9 ["rows","caps","found","level","room"]:=B9 X G a23 l23 c_23 k23 λ_ _ _ _ _ _ us hl=>by obtain⟨_,_,_,_,_,rfl⟩:=b7s hl;rfl
 have a0:FunAt K mg "least" a1O ["rows","caps","most"]:=B9 X G a24 l24 c_24 k24 λ_ _ _ _ _ _ us hl=>by obtain⟨_,_,_,rfl⟩:=a4I hl;rfl
 have e1:FunAt K mg "_law_pot" S5 ["_law_script"]:=B9 X G a25 l25 c_25 k25 λ_ _ _ _ _ _ us hl=>by obtain⟨_,rfl⟩:=a2D hl;rfl
 have b8:FunAt K mg "_law_take" O4 ["_law_pot_here","_law_many"]:=B9 X G a26 l26 c_26 k26 λ_ _ _ _ _ _ us hl=>by obtain⟨_,_,rfl⟩:=Q9 hl;rfl
 have b6:FunAt K mg "_law_width" M0 ["_law_pot_here"]:=B9 X G a27 l27 c_27 k27 λ_ _ _ _ _ _ us hl=>by obtain⟨_,rfl⟩:=a2D hl;rfl
 have b9:FunAt K mg "_law_rows" O5 ["_law_pot_here","_law_width_here"]:=B9 X G a28 l28 c_28 k28 λ_ _ _ _ _ _ us hl=>by obtain⟨_,_,rfl⟩:=Q9 hl;rfl
 have Y:FunAt K mg "_law_caps" O6 ["_law_pot_here","_law_width_here"]:=B9 X G a29 l29 c_29 k29 λ_ _ _ _ _ _ us hl=>by obtain⟨_,_,rfl⟩:=Q9 hl;rfl
 have b3:FunAt K mg "_law_found" M1 ["_law_rows_here","_law_caps_here","_law_most"]:=B9 X G a30 l30 c_30 k30 λ_ _ _ _ _ _ us hl=>by obtain⟨_,_,_,rfl⟩:=a4I hl;rfl
 have e0:FunAt K mg "_law_system" K1 ["_law_pot_here","_law_most"]:=B9 X G a31 l31 c_31 k31 λ_ _ _ _ _ _ us hl=>by obtain⟨_,_,rfl⟩:=Q9 hl;rfl
 have M:FunAt K mg "_law_sum" S3 ["_law_one","_law_other"]:=B9 X G a32 l32 c_32 k32 λ_ _ _ _ _ _ us hl=>by obtain⟨_,_,rfl⟩:=Q9 hl;rfl
 have Z:FunAt K mg "_law_spoilt" K2 ["_law_pot_here","_law_width_here","_law_told"]:=B9 X G a33 l33 c_33 k33 λ_ _ _ _ _ _ us hl=>by obtain⟨_,_,_,rfl⟩:=a4I hl;rfl
 refine⟨fnOf "law" "law" (P0 a2n) (E1 a2n) (A1 a2n) .none v34 x34 p34 n34 c34 t34,λs v=>.of_eq rfl,λbase XB GB=>?_⟩;have n:=PySem.W.mg_of X G aD_TooMany;have H:=PySem.W.mg_of X G aD_Finder;have m:Cls K a:=⟨pg_Finder,hd_Finder,po_Finder,sa_Finder⟩;have d:MethAt K a "__init__" "Finder.__init__" D7 ["self","rows","caps"]:=a2B a_Finder___init__ i_Finder___init__ l_Finder___init__ c_Finder___init__ k_Finder___init__ λ_ _ _ _ _ _ us hl=>by obtain⟨_,_,_,rfl⟩:=a4I hl;rfl
 have I:MethAt K a "step" "Finder.step" Z7 ["self"]:=a2B a_Finder_step i_Finder_step l_Finder_step c_Finder_step k_Finder_step λ_ _ _ _ _ _ us hl=>by obtain⟨_,rfl⟩:=a2D hl;rfl
 have b:MethAt K a "step_within" "Finder.step_within" C2 ["self","room"]:=a2B a_Finder_step_within i_Finder_step_within l_Finder_step_within c_Finder_step_within k_Finder_step_within λ_ _ _ _ _ _ us hl=>by obtain⟨_,_,rfl⟩:=Q9 hl;rfl
 have F:MethAt K a "level" "Finder.level" V4 ["self"]:=a2B a_Finder_level i_Finder_level l_Finder_level c_Finder_level k_Finder_level λ_ _ _ _ _ _ us hl=>by obtain⟨_,rfl⟩:=a2D hl;rfl
 have k:MethAt K a "told" "Finder.told" K3 ["self"]:=a2B a_Finder_told i_Finder_told l_Finder_told c_Finder_told k_Finder_told λ_ _ _ _ _ _ us hl=>by obtain⟨_,rfl⟩:=a2D hl;rfl
 have i:MethAt K a "paper" "Finder.paper" G5 ["self"]:=a2B a_Finder_paper i_Finder_paper l_Finder_paper c_Finder_paper k_Finder_paper λ_ _ _ _ _ _ us hl=>by obtain⟨_,rfl⟩:=a2D hl;rfl
 have j:MethAt K a "ended" "Finder.ended" G8 ["self"]:=a2B a_Finder_ended i_Finder_ended l_Finder_ended c_Finder_ended k_Finder_ended λ_ _ _ _ _ _ us hl=>by obtain⟨_,rfl⟩:=a2D hl;rfl
 have FL:=a2R (st:=a2n) l34 c_34 k34;have RS:=a6U (base:=base) (P:=l.prog) (w:=w) F5 T;have SU:=b3N F6 T RS;have N:=a4F F7 T SU;have FA:=b1v F9 T (a6V F8 T) SU;have BE:=b1x (base:=base) (P:=l.prog) (w:=w) O T;have ST:=b1p V T FA (a9l c0);have NX:=a3i b4 T ST (a4E Q T BE);have FS:=a2v (base:=base) (P:=l.prog) (w:=w) b0 T (b3K R T) (a3H F1 T);have J:FiTx K a:=⟨m,n_Finder_rows,n_Finder_caps,n_Finder_begun,n_Finder_here,n_Finder_found,n_Finder_walked⟩;have MI:=(b1u (base:=base) (P:=l.prog) (w:=w) (mg:=mg) d J).make H mk_Finder kc_Finder;have MS:=b1o b J T NX FS N;have ME:=b1w (base:=base) (P:=l.prog) (w:=w) j J T;have MT:=b3L (base:=base) (P:=l.prog) (w:=w) k J T;have MP:=b1r (base:=base) (P:=l.prog) (w:=w) i J T;have LE:=b1s a0 T J m MI MS ME MT MP (b5S XB n lx_TooMany tx_TooMany ok_TooMany in_TooMany);have TK:=b3M (base:=base) (P:=l.prog) (w:=w) b8 T;have FD:=b1t b3 T LE n (b4p lx_TooMany be_TooMany);have SY:=a9j e0 T (b1n b6 T TK) (b3P b9 T TK) (b3Q Y T TK) FD;have AT:=a3l L T BE;have LO:=a5K b2 T (a3m L T BE);have AV:=a1z F4 T (a3j F3 T (a3k (base:=base) (P:=l.prog) (w:=w) F2 T));have AF:=a6X U T (a3H (base:=base) (P:=l.prog) (w:=w) F1 T);have AL:=a4G b7 T LO N;have MM:=a9m b5 T AT;have GO:=a6W b1 T AT N ST MM;have SH:=b1q d0 T AV AF AL MM FS GO;exact b6e FL T (b6d e1 T) TK SY (a9k Z T TK (b3O M T)) SH
end K17
namespace PySem.W.Fast
theorem tw7182669684439593511:True:=⟨⟩
theorem tw12584892863930641918:True:=⟨⟩
theorem tw3164815252639499000:True:=⟨⟩
theorem tw10260938928844993922:True:=⟨⟩
theorem tw5990893896583977086:True:=⟨⟩
theorem tw17892966037979527231:True:=⟨⟩
theorem tw18036837914172849586:True:=⟨⟩
theorem tw5373332947763103371:True:=⟨⟩
theorem tw10751933095509235541:True:=⟨⟩
theorem tw12937572068054298086:True:=⟨⟩
theorem tw2259282928264995317:True:=⟨⟩
theorem tw16659621948989199101:True:=⟨⟩
theorem tw7016592392654981968:True:=⟨⟩
theorem tw15482749387229497646:True:=⟨⟩
theorem tw454060665651600368:True:=⟨⟩
theorem tw2220942425088139477:True:=⟨⟩
theorem tw2360852331743839398:True:=⟨⟩
theorem tw1331136537085809378:True:=⟨⟩
theorem tw16962228073540533966:True:=⟨⟩
theorem tw3216459695378432199:True:=⟨⟩
theorem tw10607826679634297304:True:=⟨⟩
theorem tw17958911334747161679:True:=⟨⟩
theorem tw3139519344107265934:True:=⟨⟩
theorem tw1120936418988932820:True:=⟨⟩
theorem tw2908366543053116617:True:=⟨⟩
theorem tw13145223077388818669:True:=⟨⟩
theorem tw15726469816432469786:True:=⟨⟩
theorem tw8538348774863333743:True:=⟨⟩
theorem tw8536300102639297042:True:=⟨⟩
theorem tw3080661729482422097:True:=⟨⟩
theorem tw4290398916453185372:True:=⟨⟩
theorem tw1417653428459109706:True:=⟨⟩
theorem tw11505921288978109343:True:=⟨⟩
theorem tw9926109961680825931:True:=⟨⟩
theorem tw14961845769843779316:True:=⟨⟩
theorem tw13016619310291277493:True:=⟨⟩
theorem tw15258118919738314724:True:=⟨⟩
theorem tw4880428717890819058:True:=⟨⟩
theorem tw7913107961730557990:True:=⟨⟩
theorem tw7292247235024425932:True:=⟨⟩
theorem tw16974372418650270202:True:=⟨⟩
theorem tw10772488006515085514:True:=⟨⟩
theorem tw2627757937753539192:True:=⟨⟩
theorem tw10614027960597381715:True:=⟨⟩
theorem tw7523753686722225420:True:=⟨⟩
theorem tw3017579197843041764:True:=⟨⟩
theorem tw14676082686663991493:True:=⟨⟩
theorem tw6286056258349927237:True:=⟨⟩
theorem tw7248883225167877723:True:=⟨⟩
theorem tw3740748681625730353:True:=⟨⟩
theorem tw6139781309088911776:True:=⟨⟩
theorem tw4962614730583543758:True:=⟨⟩
theorem tw15343198993178027656:True:=⟨⟩
theorem tw15562293003785763776:True:=⟨⟩
theorem tw15700975313066603327:True:=⟨⟩
theorem tw14969986336950336498:True:=⟨⟩
theorem tw7121897753000240614:True:=⟨⟩
theorem tw6657451712678672211:True:=⟨⟩
theorem tw12946092413313913451:True:=⟨⟩
theorem tw17226131465328010659:True:=⟨⟩
theorem tw17166705118630080407:True:=⟨⟩
theorem tw17839084496697144307:True:=⟨⟩
theorem tw2185124031418104705:True:=⟨⟩
theorem tw5787103136639911675:True:=⟨⟩
theorem tw15515611226402234779:True:=⟨⟩
theorem tw15966381655217352483:True:=⟨⟩
theorem tw13906249229828600119:True:=⟨⟩
theorem tw9640272745615725222:True:=⟨⟩
theorem tw1009327634357528387:True:=⟨⟩
theorem tw1677822138027924588:True:=⟨⟩
theorem tw5414492332950018456:True:=⟨⟩
theorem tw878348073313130445:True:=⟨⟩
theorem tw6423220202792788678:True:=⟨⟩
theorem tw13239141569783659604:True:=⟨⟩
theorem tw11163055985946662604:True:=⟨⟩
theorem tw16452647365525314138:True:=⟨⟩
theorem tw8004265360497253212:True:=⟨⟩
theorem tw3138024805812466120:True:=⟨⟩
theorem tw4026270290581855579:True:=⟨⟩
theorem tw6091020437374983717:True:=⟨⟩
theorem tw4880574198533047180:True:=⟨⟩
theorem tw15032727407673056497:True:=⟨⟩
theorem tw5867636676972643894:True:=⟨⟩
theorem tw3666763734191124755:True:=⟨⟩
theorem tw13119932961335220538:True:=⟨⟩
theorem tw17503995091319070645:True:=⟨⟩
theorem tw5945785828948152344:True:=⟨⟩
theorem tw15027241568627893566:True:=⟨⟩
theorem tw16191470890864207154:True:=⟨⟩
theorem tw4809693115739465321:True:=⟨⟩
theorem tw14021774513483205113:True:=⟨⟩
end PySem.W.Fast
open PySem PySem.W PyProof.Rows
set_option maxRecDepth 100000 in
set_option maxHeartbeats 0 in
theorem PySem.Challenge.cw_leastlays_k17_looker_refuses_holds : PySem.Challenge.rw_leastlays_k17_looker_refuses.Holds := by
 w_on;o_law;k_head;(case hw=>w_witness2)
 k_fill
 refine L2.law_walk (l:=PySem.Challenge.rw_leastlays_k17_looker_refuses) 10 rfl rfl ⟨rfl,by decide,by decide⟩ (λw h Y=>PySem.W.kIn_of Y) ?F
 case F =>
  intro w mg fa h KX G hmg
  refine' K17.all_mk KX G hmg ?a1 ?l1 ?c_1 ?k1 ?a2 ?l2 ?c_2 ?k2 ?a3 ?l3 ?c_3 ?k3 ?a4 ?l4 ?c_4 ?k4 ?a5 ?l5 ?c_5 ?k5 ?a6 ?l6 ?c_6 ?k6 ?a7 ?l7 ?c_7 ?k7 ?a8 ?l8 ?c_8 ?k8 ?a9 ?l9 ?c_9 ?k9 ?a10 ?l10 ?c_10 ?k10 ?a11 ?l11 ?c_11 ?k11 ?a12 ?l12 ?c_12 ?k12 ?a13 ?l13 ?c_13 ?k13 ?a14 ?l14 ?c_14 ?k14 ?a15 ?l15 ?c_15 ?k15 ?a16 ?l16 ?c_16 ?k16 ?a17 ?l17 ?c_17 ?k17 ?a18 ?l18 ?c_18 ?k18 ?a19 ?l19 ?c_19 ?k19 ?a20 ?l20 ?c_20 ?k20 ?a21 ?l21 ?c_21 ?k21 ?a22 ?l22 ?c_22 ?k22 ?a23 ?l23 ?c_23 ?k23 ?a24 ?l24 ?c_24 ?k24 ?a25 ?l25 ?c_25 ?k25 ?a26 ?l26 ?c_26 ?k26 ?a27 ?l27 ?c_27 ?k27 ?a28 ?l28 ?c_28 ?k28 ?a29 ?l29 ?c_29 ?k29 ?a30 ?l30 ?c_30 ?k30 ?a31 ?l31 ?c_31 ?k31 ?a32 ?l32 ?c_32 ?k32 ?a33 ?l33 ?c_33 ?k33 ?a34 ?l34 ?c_34 ?k34 ?z1 ?z2 ?z3 ?z4 ?z5 ?z6 ?z7 ?z8 ?z9 ?z10 ?z11 ?z12 ?z13 ?z14 ?z15 ?z16 ?aD_TooMany ?aD_Finder ?lx_TooMany ?tx_TooMany ?ok_TooMany ?in_TooMany ?be_TooMany ?pg_Finder ?hd_Finder ?po_Finder ?sa_Finder ?mk_Finder ?kc_Finder ?n_Finder_rows ?n_Finder_caps ?n_Finder_begun ?n_Finder_here ?n_Finder_found ?n_Finder_walked ?a_Finder___init__ ?i_Finder___init__ ?l_Finder___init__ ?c_Finder___init__ ?k_Finder___init__ ?a_Finder_step ?i_Finder_step ?l_Finder_step ?c_Finder_step ?k_Finder_step ?a_Finder_step_within ?i_Finder_step_within ?l_Finder_step_within ?c_Finder_step_within ?k_Finder_step_within ?a_Finder_level ?i_Finder_level ?l_Finder_level ?c_Finder_level ?k_Finder_level ?a_Finder_told ?i_Finder_told ?l_Finder_told ?c_Finder_told ?k_Finder_told ?a_Finder_paper ?i_Finder_paper ?l_Finder_paper ?c_Finder_paper ?k_Finder_paper ?a_Finder_ended ?i_Finder_ended ?l_Finder_ended ?c_Finder_ended ?k_Finder_ended
  (case a1|l1|c_1|k1|a2|l2|c_2|k2|a3|l3|c_3|k3|a4|l4|c_4|k4|a5|l5|c_5|k5|a6|l6|c_6|k6|a7|l7|c_7|k7|a8|l8|c_8|k8|a9|l9|c_9|k9|a10|l10|c_10|k10|a11|l11|c_11|k11|a12|l12|c_12|k12|a13|l13|c_13|k13|a14|l14|c_14|k14|a15|l15|c_15|k15|a16|l16|c_16|k16|a17|l17|c_17|k17|a18|l18|c_18|k18|a19|l19|c_19|k19|a20|l20|c_20|k20|a21|l21|c_21|k21|a22|l22|c_22|k22|a23|l23|c_23|k23|a24|l24|c_24|k24|a25|l25|c_25|k25|a26|l26|c_26|k26|a27|l27|c_27|k27|a28|l28|c_28|k28|a29|l29|c_29|k29|a30|l30|c_30|k30|a31|l31|c_31|k31|a32|l32|c_32|k32|a33|l33|c_33|k33|a34|l34|c_34|k34|z1|z2|z3|z4|z5|z6|z7|z8|z9|z10|z11|z12|z13|z14|z15|z16|aD_TooMany|aD_Finder=>(try unfold L2.FnL);k_is)
  (case lx_TooMany|tx_TooMany|ok_TooMany|in_TooMany|be_TooMany=>first|k_is|kernel_rfl|rfl)
  (case pg_Finder|hd_Finder|po_Finder|sa_Finder|mk_Finder|kc_Finder|n_Finder_rows|n_Finder_caps|n_Finder_begun|n_Finder_here|n_Finder_found|n_Finder_walked|a_Finder___init__|i_Finder___init__|l_Finder___init__|c_Finder___init__|k_Finder___init__|a_Finder_step|i_Finder_step|l_Finder_step|c_Finder_step|k_Finder_step|a_Finder_step_within|i_Finder_step_within|l_Finder_step_within|c_Finder_step_within|k_Finder_step_within|a_Finder_level|i_Finder_level|l_Finder_level|c_Finder_level|k_Finder_level|a_Finder_told|i_Finder_told|l_Finder_told|c_Finder_told|k_Finder_told|a_Finder_paper|i_Finder_paper|l_Finder_paper|c_Finder_paper|k_Finder_paper|a_Finder_ended|i_Finder_ended|l_Finder_ended|c_Finder_ended|k_Finder_ended=>(try unfold L2.FnL);k_is)
#print axioms PySem.Challenge.cw_leastlays_k17_looker_refuses_holds
