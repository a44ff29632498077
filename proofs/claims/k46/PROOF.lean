import PyProof.Rows.All
import Wide.All
import OpenK.AllK
import Wide.FinOn
import Lean
import PyProof.EqAt
import PyProof.EqKinds
import PyProof.TupleCall
import PyProof.ZipIter
import PyProof.ExcArgsOwn
import PyProof.ExcAttrAll.ValueError
import KE.KSortTup
import KE.KDictOf
import PyProof.AttrMissHeap
import PyProof.AutoSeq1
import PyProof.TupleOfSeq
import PySem.SetTable
import PyProof.SetNew
import PyProof.TupleKey
import PyProof.DictRoadsH
import PyProof.DictKinds
import PyProof.IsRules
import PyProof.Rows.SetFrom
import PyProof.WalksMore
import KE.KDictSum
import PyProof.Rows.CallKwBuiltin
import PyProof.MinMaxWalk
import PyProof.ListRange
import PyProof.StrBlock2
import PyProof.MeetsStr
import PyProof.MeetsStr2
import PyProof.StrLawsJoin
import PyProof.StrLawsChain
import PyProof.Rows.StrItems
import KE.KIntText
import PyProof.Rows.ReprOcc
import PyProof.StrWalks
import PyProof.CallType
import PyProof.StrOps
import PyProof.StrLawsIn
import PyProof.FString2
import PyProof.SetKind
import PySem.Challenge.RW_leastlays_k46_one_system_by_many_texts
set_option compiler.extract_closed false
set_option bootstrap.genMatcherCode false
set_option genSizeOf false
set_option Elab.async false
set_option linter.all false
set_option maxRecDepth 100000
set_option maxHeartbeats 4000000
abbrev LLI:=List (List Int)
namespace L2
open PySem PySem.Spec PyProof.Rows
abbrev Key:=Sum Int Str
noncomputable def a2r:Key->Value->Bool
 |.inl k,v=>Value.isInt k v
 |.inr x,v=>Value.isStrOf x v
noncomputable def b4U(w:World):Key->Int
 |.inl k=>hashInt k
 |.inr x=>hashStr w x
theorem D6:∀{k:Key}{v:Value},a2r k v=true->(∃i t,k=Sum.inl i/\v=Value.int i t)∨(∃x t,k=Sum.inr x/\v=Value.str x t)
 |.inl i,v,h=>by
  obtain⟨t,e⟩:=Value.isInt_shape (k:=i) (v:=v) h;exact .inl ⟨i,t,rfl,e⟩
 |.inr x,v,h=>by
  obtain⟨t,e⟩:=Value.isStrOf_shape (x:=x) (v:=v) h;exact .inr ⟨x,t,rfl,e⟩
theorem a6r(i:Int)(t:Tok):a2r (.inl i) (.int i t)=true:=by simp[a2r,Value.isInt]
theorem a6q(x:Str)(t:Tok):a2r (.inr x) (.str x t)=true:=by simp[a2r,Value.isStrOf]
theorem b2S(a b:Int):decide ((Sum.inl a:Key)=Sum.inl b)=(a==b):=by
 by_cases e:a=b
 .subst e;simp
 .have h:¬(Sum.inl a:Key)=Sum.inl b:=λq=>e (Sum.inl.inj q);rw[decide_eq_false h];exact(beq_eq_false_iff_ne.mpr e).symm
theorem b2P(a b:Str):decide ((Sum.inr a:Key)=Sum.inr b)=decide (a=b):=by
 by_cases e:a=b
 .subst e;simp
 .have h:¬(Sum.inr a:Key)=Sum.inr b:=λq=>e (Sum.inr.inj q);rw[decide_eq_false h,decide_eq_false e]
theorem b2R(a:Int)(b:Str):decide ((Sum.inl a:Key)=Sum.inr b)=false:=decide_eq_false (λq=>nomatch q)
theorem b2Q(a:Str)(b:Int):decide ((Sum.inr a:Key)=Sum.inl b)=false:=decide_eq_false (λq=>nomatch q)
noncomputable def C3(prog:Program)(w:World):PySem.KeyKind prog w Key where
 is:=a2r
 hash:=b4U w
 inj:=λv a b ha hb=>by
  rcases D6 ha with⟨i,t,rfl,rfl⟩|⟨x,t,rfl,rfl⟩
  .rcases D6 hb with⟨j,u,rfl,e⟩|⟨y,u,rfl,e⟩
   .injection e with e1 _;rw[e1]
   .exact nomatch e
  .rcases D6 hb with⟨j,u,rfl,e⟩|⟨y,u,rfl,e⟩
   .exact nomatch e
   .injection e with e1 _;rw[e1]
 byValue:=λk v h=>by
  rcases D6 h with⟨i,t,rfl,rfl⟩|⟨x,t,rfl,rfl⟩<;>rfl
 pyHash:=λhv h=>by
  rcases D6 hv with⟨i,t,rfl,rfl⟩|⟨x,t,rfl,rfl⟩
  .exact wpAny_pyHash_int h
  .exact wpAny_pyHash_str h
 eqBool:=λhu hv h=>by
  rcases D6 hu with⟨i,t,rfl,rfl⟩|⟨x,t,rfl,rfl⟩
  .rcases D6 hv with⟨j,u,rfl,rfl⟩|⟨y,u,rfl,rfl⟩
   .rw[b2S]at h;exact wpAny_eqBool_int h
   .rw[b2R]at h;exact SeqAt.EqAt.int_str i t y u _ _ _ _ h
  .rcases D6 hv with⟨j,u,rfl,rfl⟩|⟨y,u,rfl,rfl⟩
   .rw[b2Q]at h;exact SeqAt.EqAt.str_int x t j u _ _ _ _ h
   .rw[b2P]at h;exact wpAny_eqBool_str h
 «strs»:=λk x t v h=>by
  rcases D6 h with⟨i,u,rfl,e⟩|⟨y,u,rfl,e⟩
  .exact nomatch e
  .injection e with e1 _
   subst e1;cases v<;>rfl
theorem a3T(prog:Program)(w:World)(i:Int)(t:Tok):(C3 prog w).is (.inl i) (.int i t)=true:=a6r i t
theorem a3S(prog:Program)(w:World)(x:Str)(t:Tok):(C3 prog w).is (.inr x) (.str x t)=true:=a6q x t
inductive V where
 |non|bl (b:Bool)|int (i:Int)|str (x:Str)|byt (b:Array UInt8)|flt (b:UInt64)|ref (a:Addr)|ty (n:String)
 deriving DecidableEq
def RelV:V->Value->Prop
 |.non,u=>u=Value.none
 |.bl b,u=>u=Value.bool b
 |.int i,u=>∃t,u=Value.int i t
 |.str x,u=>∃t,u=Value.str x t
 |.byt b,u=>∃t,u=Value.bytes b t
 |.flt b,u=>∃t,u=Value.float b t
 |.ref a,u=>u=Value.ref a
 |.ty n,u=>u=Value.type n
abbrev Vals:List V->List Value->Prop:=Paired RelV
theorem Vals.length{xs:List V}{us:List Value}(r:Vals xs us):xs.length=us.length:=Paired.length r
theorem Vals.get:∀{xs:List V}{us:List Value}{i:Nat}{x:V},Vals xs us->xs[i]?=some x->∃u,us[i]?=some u/\RelV x u
 |_,_,_,_,.nil,e=>by simp at e
 |_,_,0,_,.cons r _,e=>by simp at e;subst e;exact⟨_,rfl,r⟩
 |_,_,i+1,x,.cons _ t,e=>by
  obtain⟨u,h1,h2⟩:=Vals.get (i:=i) (x:=x) t (by simpa using e);exact⟨u,by simpa using h1,h2⟩
theorem Vals.set{x:V}{u:Value}(r:RelV x u):∀{xs:List V}{us:List Value}(i:Nat),Vals xs us->Vals (xs.set i x) (us.set i u)
 |_,_,_,.nil=>.nil
 |_,_,0,.cons _ t=>.cons r t
 |_,_,i+1,.cons q t=>.cons q (Vals.set r i t)
theorem Vals.append:∀{xs ys:List V}{us ws:List Value},Vals xs us->Vals ys ws->Vals (xs++ys) (us++ws)
 |_,_,_,_,.nil,s=>s
 |_,_,_,_,.cons r t,s=>.cons r (Vals.append t s)
theorem Vals.take:∀{xs:List V}{us:List Value}(n:Nat),Vals xs us->Vals (xs.take n) (us.take n)
 |_,_,0,_=>.nil
 |_,_,_+1,.nil=>.nil
 |_,_,n+1,.cons r t=>.cons r (Vals.take n t)
theorem Vals.drop:∀{xs:List V}{us:List Value}(n:Nat),Vals xs us->Vals (xs.drop n) (us.drop n)
 |_,_,0,r=>r
 |_,_,_+1,.nil=>.nil
 |_,_,n+1,.cons _ t=>Vals.drop n t
def RelO:Option V->Option Value->Prop
 |some v,some u=>RelV v u
 |none,none=>True
 |_,_=>False
def KV{κ:Type}:List (κ×V)->List (κ×Value)->Prop:=Paired λ(p:κ×V) (q:κ×Value)=>p.1=q.1/\RelV p.2 q.2
noncomputable def kV:Key->V
 |.inl i=>.int i
 |.inr x=>.str x
inductive HO where
 |lst (xs:List V)
 |tup (xs:List V)
 |dK (kvs:List (Key×V))|dT (kvs:List (List Key×V))
 |set (S:Int->Bool) (n:Nat)
 |ins (C dx:Addr) (fs:List (Str×V))
 |own (x:Addr)
 |xd (fs:List (Str×V))
 |met (f x:Addr)
 |rng (lo hi:Int)
 |frz (o:Obj) (u:HO)
 |tbl (ps:Array Value)
 |ext (φ:Heap->Prop)
abbrev Hp:=Addr->Option HO
noncomputable def upd(H:Hp)(a:Addr)(o:HO):Hp:=λb=>if b=a then some o else H b
theorem A0{H:Hp}{a:Addr}{o:HO}:upd H a o a=some o:=by unfold upd;rw[if_pos rfl]
theorem A6{H:Hp}{a b:Addr}{o:HO}(h:b≠a):upd H a o b=H b:=by unfold upd;rw[if_neg h]
theorem a5g{H:Hp}{a:Addr}{o u:HO}:upd (upd H a o) a u=upd H a u:=by
 funext b;unfold upd;split<;>rfl
theorem a0B{H:Hp}{a b:Addr}{o u:HO}(h:H a=some o)(h':H b=some u)(d:o≠u):a≠b:=by
 intro e;subst e;rw[h]at h';exact d (Option.some.inj h')
theorem A4{H:Hp}{a b:Addr}{o:HO}(h:H a=some o)(h':H b=none):a≠b:=by
 intro e;subst e;rw[h]at h';cases h'
def IsTp(h:Heap)(a:Addr)(items:Array Value):Prop:=∃o:Obj,h.get? a=some o/\(o.cls,o.dict)=(.type "tuple",none)/\∃n,o.data=.seq items n
theorem IsTp.tup{h:Heap}{a:Addr}{items:Array Value}(x:IsTp h a items):IsTup h a items:=let ⟨o,e,c,d⟩:=x;⟨o,e,congrArg Prod.fst c,d⟩
theorem IsTp.new(h:Heap)(items:Array Value):IsTp (h.push {cls:=.type "tuple",data:=.seq items}) h.objs.size items:=⟨_,Heap.get?_push_size _ rfl,rfl,_,rfl⟩
section
variable (P:Program) (w:World)
def ObjOk(H:Hp)(h:Heap)(a:Addr):HO->Prop
 |.lst xs=>xs.length<=sizeLine/\∃(its:List Value) (n:Nat),Vals xs its/\h.get? a=some {cls:=.type "list",data:=.seq its.toArray n}
 |.tup xs=>xs.length<=sizeLine/\∃its:List Value,Vals xs its/\IsTp h a its.toArray
 |.dK kvs=>kvs.length<=sizeLine/\(a==sysModules)=false/\∃vs,KV kvs vs/\h.DictOf (C3 P w) a vs
 |.dT kvs=>kvs.length<=sizeLine/\(a==sysModules)=false/\∃xs:List (List Key×Addr×Value),
   Paired (λ(p:List Key×V) (q:List Key×Addr×Value)=>p.1=q.1/\H q.2.1=some (.tup (p.1.map kV))/\RelV p.2 q.2.2) kvs xs /\
   ∃o es ep,h.get? a=some o/\o.ExactDict/\o.data=.dict es ep/\es.toList=xs.map (entryOfKey (tupleKind (C3 P w)))/\(xs.map (·.1)).Nodup
 |.set S n=>h.SetOf (intKind P w) a S n
 |.ins C dx fs=>H dx=some (.own a)/\fs.length<=1000/\dx≠a/\h.get? a=some (PySem.W.instObj C dx) /\
   ∃mA,h.Ns1 dx mA/\(∀f,RelO (fs.lookup f) (mA f))/\PySem.Within mA (fs.map (·.1))
 |.own _=>∃o,h.get? a=some o
 |.xd fs=>∃mA,h.Ns1 a mA/\∀f,RelO (fs.lookup f) (mA f)
 |.rng lo hi=>∃t u v,h.get? a=some {cls:=.type "range",data:=.fields #[.int lo t,.int hi u,.int 1 v]}
 |.frz o u=>h.get? a=some o/\ObjOk H h a u
 |.tbl ps=>h.get? a=some {cls:=.none,data:=.fields ps}
 |.met f x=>h.get? a=some (PySem.W.methodObj (.ref f) (.ref x))
 |.ext φ=>φ h/\(∃o,h.get? a=some o)/\∀h1 h2:Heap,φ h1->(∀o,h1.get? a=some o->h2.get? a=some o)->φ h2
def HOk(H:Hp)(h:Heap):Prop:=∀a o,H a=some o->ObjOk P w H h a o
end
section
variable {P:Program}{w:World}{H H':Hp}{h h':Heap}{a:Addr}{o:HO}
theorem ObjOk.lt(x:ObjOk P w H h a o):a<h.objs.size:=by
 cases o with
 |lst xs=>obtain⟨_,_,_,_,e⟩:=x;exact Heap.lt_size e
 |tup xs=>obtain⟨_,_,_,p⟩:=x;exact p.tup.lt
 |dK kvs=>obtain⟨_,_,_,_,o,_,_,e,_⟩:=x;exact Heap.lt_size e
 |dT kvs=>obtain⟨_,_,_,_,o,_,_,e,_⟩:=x;exact Heap.lt_size e
 |set S n=>obtain⟨o,_,_,_,e,_⟩:=x;exact Heap.lt_size e
 |ins C dx fs=>obtain⟨_,_,_,e,_⟩:=x;exact Heap.lt_size e
 |own y=>obtain⟨_,e⟩:=x;exact Heap.lt_size e
 |xd fs=>obtain⟨_,⟨_,_,_,e,_⟩,_⟩:=x;exact Heap.lt_size e
 |rng lo hi=>obtain⟨_,_,_,e⟩:=x;exact Heap.lt_size e
 |frz ob u=>obtain⟨e,_⟩:=x;exact Heap.lt_size e
 |tbl ps=>exact Heap.lt_size (show h.get? a=some _ from x)
 |met f y=>exact Heap.lt_size (show h.get? a=some _ from x)
 |ext φ=>obtain⟨_,⟨_,e⟩,_⟩:=x;exact Heap.lt_size e
theorem Paired.mapP{α β:Type}{F G:α->β->Prop}:∀{l₁:List α}{l₂:List β},Paired F l₁ l₂->(∀a b,F a b->G a b)->Paired G l₁ l₂
 |_,_,.nil,_=>.nil
 |_,_,.cons r t,f=>.cons (f _ _ r) (Paired.mapP t f)
theorem ObjOk.stay(x:ObjOk P w H h a o)(k:∀b u,(b=a∨H b=some (.own a))->h.get? b=some u->h'.get? b=some u)
  (ho:∀b,H b=some (.own a)->H' b=some (.own a)) (ht:∀b xs,H b=some (.tup xs)->H' b=some (.tup xs)):ObjOk P w H' h' a o:=by
 induction o with
 |lst xs=>obtain⟨z,its,n,r,e⟩:=x;exact⟨z,its,n,r,k _ _ (.inl rfl) e⟩
 |tup xs=>obtain⟨z,its,r,ob,e,c⟩:=x;exact⟨z,its,r,ob,k _ _ (.inl rfl) e,c⟩
 |dK kvs=>obtain⟨z,y,vs,r,ob,es,ep,e,c⟩:=x;exact⟨z,y,vs,r,ob,es,ep,k _ _ (.inl rfl) e,c⟩
 |dT kvs =>
  obtain⟨z,y,xs,r,ob,es,ep,e,c⟩:=x;exact⟨z,y,xs,Paired.mapP r λp q z=>⟨z.1,ht _ _ z.2.1,z.2.2⟩,ob,es,ep,k _ _ (.inl rfl) e,c⟩
 |set S n=>obtain⟨ob,es,ep,t,e,c⟩:=x;exact⟨ob,es,ep,t,k _ _ (.inl rfl) e,c⟩
 |ins C dx fs =>
  obtain⟨d,z,ne,e,mA,⟨od,es,ep,e2,c⟩,r⟩:=x;exact⟨ho _ d,z,ne,k _ _ (.inl rfl) e,mA,⟨od,es,ep,k _ _ (.inr d) e2,c⟩,r⟩
 |own y=>obtain⟨ob,e⟩:=x;exact⟨ob,k _ _ (.inl rfl) e⟩
 |xd fs=>obtain⟨mA,⟨od,es,ep,e,c⟩,r⟩:=x;exact⟨mA,⟨od,es,ep,k _ _ (.inl rfl) e,c⟩,r⟩
 |rng lo hi=>obtain⟨t,u,v,e⟩:=x;exact⟨t,u,v,k _ _ (.inl rfl) e⟩
 |frz ob u ih=>obtain⟨e,q⟩:=x;exact⟨k _ _ (.inl rfl) e,ih q⟩
 |tbl ps =>
  have e:h.get? a=some {cls:=.none,data:=.fields ps}:=x;show h'.get? a=some {cls:=.none,data:=.fields ps};exact k a _ (.inl rfl) e
 |met f y =>
  have e:h.get? a=some (PySem.W.methodObj (.ref f) (.ref y)):=x;show h'.get? a=some (PySem.W.methodObj (.ref f) (.ref y));exact k a _ (.inl rfl) e
 |ext φ=>obtain⟨p,⟨o,e⟩,st⟩:=x;exact⟨st _ _ p λo q=>k _ _ (.inl rfl) q,⟨o,k _ _ (.inl rfl) e⟩,st⟩
theorem HOk.lt(x:HOk P w H h)(e:H a=some o):a<h.objs.size:=(x a o e).lt
theorem HOk.fresh(x:HOk P w H h)(e:h.objs.size<=a):H a=none:=by
 cases q:H a with
 |none=>rfl
 |some u=>exact absurd (Nat.lt_of_lt_of_le (x.lt q) e) (Nat.lt_irrefl _)
theorem HOk.kept(x:HOk P w H h)(k:∀b u,h.get? b=some u->h'.get? b=some u):HOk P w H h':=λa o e =>
 (x a o e).stay (λb u _ q=>k b u q) (λ_ q=>q) λ_ _ q=>q
theorem HOk.laid(x:HOk P w H h)(k:∀b u,h.get? b=some u->h'.get? b=some u)(hp:h.objs.size<=a)(new:ObjOk P w (upd H a o) h' a o):HOk P w (upd H a o) h':=λb u e=>by
 have hn:=x.fresh hp;by_cases hb:b=a
 .subst hb;rw[A0]at e;cases e;exact new
 .rw[A6 hb]at e;exact(x b u e).stay (λc v _ q=>k c v q) (λc q=>by rw[A6 (A4 q hn)];exact q) λc xs q=>by rw[A6 (A4 q hn)];exact q
end
def Rd(H:Hp)(a:Addr)(u:HO):Prop:=H a=some u∨∃o,H a=some (.frz o u)
theorem Rd.ok{P:Program}{w:World}{H:Hp}{h:Heap}{a:Addr}{u:HO}(r:Rd H a u)(x:HOk P w H h):ObjOk P w H h a u:=by
 rcases r with r|⟨o,r⟩
 .exact x a u r
 .obtain⟨_,q⟩:=x a _ r;exact q
def Mut:Option HO->Prop
 |some (.lst _)=>True
 |some (.dK _)=>True
 |some (.dT _)=>True
 |some (.set _ _)=>True
 |some (.ins _ _ _)=>True
 |some (.ext _)=>True
 |_=>False
section
variable {P:Program}{w:World}{H:Hp}{h h':Heap}{x e:Addr}{o':HO}
theorem HOk.write(ok:HOk P w H h)(mu:Mut (H x))(he:e=x∨H e=some (.own x))(k:∀b u,b≠e->h.get? b=some u->h'.get? b=some u)(heo:∃u,h'.get? e=some u)
  (new:ObjOk P w (upd H x o') h' x o'):HOk P w (upd H x o') h':=λb u q=>by
 have nown:∀c y,H c=some (.own y)->c≠x:=λc y r z=>by subst z;rw[r]at mu;exact mu
 have ntup:∀c xs,H c=some (.tup xs)->c≠x:=λc xs r z=>by subst z;rw[r]at mu;exact mu
 by_cases hb:b=x
 .subst hb;rw[A0]at q;cases q;exact new
 .rw[A6 hb]at q;by_cases hbe:b=e
  .have q':H b=some (.own x):=by
    rcases he with z|z
    .exact absurd (hbe.trans z) hb
    .rw[hbe];exact z
   rw[q]at q';cases q';obtain⟨v,hv⟩:=heo;exact⟨v,by rw[hbe];exact hv⟩
  .refine(ok b u q).stay (λc v hc r=>k c v ?_ r) (λc r=>by rw[A6 (nown c b r)];exact r) λc xs r=>by rw[A6 (ntup c xs r)];exact r
   rcases hc with rfl|hc
   .exact hbe
   .rintro rfl;rcases he with z|z
    .exact nown c b hc z
    .rw[hc]at z;cases z;exact hb rfl
end
structure Un(fs ex:List Addr)(H H':Hp)(h h':Heap):Prop where
 keep:∀b o,h.get? b=some o->H b=none->b∉fs->b∉ex->h'.get? b=some o
 slot:∀b o,h.get? b=some o->H b=none->b∈fs->b∉ex->∃sl,h'.get? b=some {o with slots:=sl}
 free:∀b o,h.get? b=some o->H b=none->b∉ex->H' b=none
 there:∀b o,h.get? b=some o->b∉ex->∃o',h'.get? b=some o'
 tups:∀b xs,H b=some (.tup xs)->H' b=some (.tup xs)
 frzs:∀b o u,H b=some (.frz o u)->H' b=some (.frz o u)
 tbls:∀b ps,H b=some (.tbl ps)->∃more,H' b=some (.tbl (ps++more))
section
variable {fs fs' ex ex':List Addr}{H H1 H2:Hp}{h h1 h2 h':Heap}{a x e:Addr}{o:HO}
theorem Un.any(u:Un fs ex H H1 h h1){b:Addr}{ob:Obj}(q:h.get? b=some ob)(n:H b=none)(hx:b∉ex):∃sl,h1.get? b=some {ob with slots:=sl}:=by
 by_cases hb:b∈fs
 .exact u.slot b ob q n hb hx
 .exact⟨ob.slots,u.keep b ob q n hb hx⟩
theorem Un.kept(k:∀b u,h.get? b=some u->h'.get? b=some u):Un fs ex H H h h' :=
 ⟨λb ob q _ _ _=>k b ob q,λb ob q _ _ _=>⟨ob.slots,k b ob q⟩,λ_ _ _ n _=>n,λb ob q _=>⟨ob,k b ob q⟩,λ_ _ q=>q,λ_ _ _ q=>q,λ_ ps q=>⟨#[],by rw[q];simp⟩⟩
theorem Un.refl:Un fs ex H H h h:=Un.kept λ_ _ q=>q
theorem Un.laid(k:∀b u,h.get? b=some u->h'.get? b=some u)(hp:h.objs.size<=a)(hn:H a=none):Un fs ex H (upd H a o) h h' where
 keep:=λb u q _ _ _=>k b u q
 slot:=λb u q _ _ _=>⟨u.slots,k b u q⟩
 free:=λb u q n _=>by rw[A6 (Nat.ne_of_lt (Nat.lt_of_lt_of_le (Heap.lt_size q) hp))];exact n
 there:=λb u q _=>⟨u,k b u q⟩
 tups:=λb xs q=>by rw[A6 (A4 q hn)];exact q
 frzs:=λb u xs q=>by rw[A6 (A4 q hn)];exact q
 tbls:=λb ps q=>⟨#[],by rw[A6 (A4 q hn),q];simp⟩
theorem Un.write(mu:Mut (H x))(he:e=x∨H e=some (.own x))(k:∀b u,b≠e->h.get? b=some u->h'.get? b=some u)(heo:∃u,h'.get? e=some u):Un fs ex H (upd H x o) h h':=by
 have hx:∀b,H b=none->b≠x:=λb n z=>by subst z;rw[n]at mu;exact mu
 have hb:∀b,H b=none->b≠e:=λb n z=>by
  subst z;rcases he with r|r
  .exact hx b n r
  .rw[n]at r;cases r
 have hm:∀b u,H b=some u->¬Mut (some u)->b≠x:=λb u q nm z=>by subst z;rw[q]at mu;exact nm mu
 refine⟨λb u q n _ _=>k b u (hb b n) q,λb u q n _ _=>⟨u.slots,k b u (hb b n) q⟩,λb u q n _=>by rw[A6 (hx b n)];exact n,λb u q _=>?_,
  λb xs q=>by rw[A6 (hm b _ q λz=>z)];exact q,λb u xs q=>by rw[A6 (hm b _ q λz=>z)];exact q,λb ps q=>⟨#[],by rw[A6 (hm b _ q λz=>z),q];simp⟩⟩
 by_cases hbe:b=e
 .subst hbe;exact heo
 .exact⟨u,k b u hbe q⟩
end
noncomputable def trk(h:Heap)(H:Hp):List Addr:=(List.range h.objs.size).filter λa=>(H a).isSome
noncomputable def a3l(h:Heap)(H:Hp):Heap:=PySem.W.hideAll h (trk h H)
theorem a6x(h:Heap)(H:Hp):(a3l h H).objs.size=h.objs.size:=PySem.W.hideAll_size _ _
theorem a8J{h:Heap}{H:Hp}{b:Addr}{o:Obj}(e:h.get? b=some o)(n:H b=none):(a3l h H).get? b=some o :=
 PySem.W.hideAll_get _ e λhm=>by
  have q:(H b).isSome=true:=(List.mem_filter.mp hm).2;rw[n]at q;simp at q
theorem b0f{h:Heap}{H:Hp}{b:Addr}{o:Obj}(e:(a3l h H).get? b=some o):h.get? b=some o/\H b=none:=by
 have e':h.get? b=some o:=PySem.W.of_hideAll (trk h H) e;refine⟨e',?_⟩;cases q:H b with
 |none=>rfl
 |some x =>
  have hm:b∈trk h H:=List.mem_filter.mpr ⟨List.mem_range.mpr (Heap.lt_size e'),by simp[q]⟩;have z:(a3l h H).get? b=none:=PySem.W.hideAll_none (trk h H) hm;rw[z]at e;cases e
noncomputable def b0H(g h:Heap)(L:Addr):List (Addr×Obj):=(List.range h.objs.size).filterMap λa=>if a=L∨(g.get? a).isSome=true then none else(h.get? a).map λo=>(a,o)
noncomputable def rest(g h:Heap)(L d:Addr):List (Addr×Obj):=(b0H g h L).filter λp=>decide (p.1≠d)
structure Mod(K:PySem.W.Frag)(mg:Str->Option Value)(base:Heap):Prop where
 kin:K.In base
 glob:base.Ns mainGlobals mg
 blt:∃mb,base.Ns builtinsNs mb/\∀x:Str,x≠"__name__"->mb x=bootBuiltins x
 nolimit:base.NoLimit
structure Cx where
 prog:Program
 w:World
 K:PySem.W.Frag
 mg:Str->Option Value
 base:Heap
 A:Around
 N:List Str
 s₀:Shared
 H₀:Hp
 env:Env
 outer:List Env
 stack:List Env
 ex:List Addr
 fn:Str->Bool
 calm:Bool
 pn:List (Addr×Obj)
 xe:Value->Shared->Prop
noncomputable def frs(l:List Env):List Addr:=l.filterMap (·.frame)
noncomputable abbrev Cx.fs(X:Cx):List Addr:=frs X.outer
def Vis(sc:Scope)(x:Str):Prop:=sc.names.lookup x=some .local∨sc.names.lookup x=some .cell∨sc.names.lookup x=some .free
def Loc(sc:Scope)(x:Str):Prop:=sc.names.lookup x=some .local∨sc.names.lookup x=some .cell
def b5b(env:Env)(h:Heap)(m:Str->Option Value)(x:Str)(u:Value):Prop :=
 (env.kindOf x=some .local/\m x=some u)∨((env.kindOf x=some .cell∨env.kindOf x=some .free)/\∃c,env.cells.lookup x=some c/\h.IsCell c (some u))
structure Cx.Ok(X:Cx):Prop where
 mod:Mod X.K X.mg X.base
 kind:X.env.scope.kind=.function
 glob:X.env.globals=mainGlobals
 blt:X.env.builtins=builtinsNs
 above:X.s₀.heap.objs.size<=X.env.locals
 inj:∀x y c,X.env.cells.lookup x=some c->X.env.cells.lookup y=some c->x=y
 has:∀x,(X.env.kindOf x=some .cell∨X.env.kindOf x=some .free)->∃c,X.env.cells.lookup x=some c
 cab:∀x c,X.fn x=true->X.env.cells.lookup x=some c->X.s₀.heap.objs.size<=c
 hd:X.calm=true->X.A.handled=none
 frames:X.A.frames=some X.stack
 stk:X.stack=X.outer∨(X.stack=X.env::X.outer/\X.env.frame=some X.env.locals)
 exf:∀b∈X.ex,b≠X.env.locals/\∀x c,X.env.cells.lookup x=some c->c≠b
 bs:∀b o,X.base.get? b=some o->X.s₀.heap.get? b=some o/\X.H₀ b=none
 bsz:X.base.objs.size<=X.s₀.heap.objs.size
 noex:∀b o,X.base.get? b=some o->b∉X.ex
 exfs:∀b∈X.ex,b∉X.fs
 funs:X.s₀.heap.FunFrames X.base X.outer
 frf:∀b∈X.fs,X.H₀ b=none
structure Inv(X:Cx)(pins:List (Addr×Obj))(σ:List (Option V))(H:Hp)(s:Shared):Prop where
 ok:X.Ok
 os:s.os=X.s₀.os
 bare:AllBare s.gens
 base:Un X.fs X.ex X.H₀ H X.s₀.heap s.heap
 loc:∃m,s.heap.Ns X.env.locals m/\∀(i:Nat) (x:Str) (v:V),X.N[i]?=some x->σ[i]?=some (some v)->Vis X.env.scope x->∃u,RelV v u/\b5b X.env s.heap m x u
 cell:∀x c,X.env.cells.lookup x=some c->∃v,s.heap.IsCell c v
 free:H X.env.locals=none
 freeC:∀x c,X.env.cells.lookup x=some c->H c=none
 pin:∀p∈X.pn++pins,s.heap.get? p.1=some p.2/\H p.1=none/\p.1≠X.env.locals/\p.1∉X.fs/\∀v,p.2.data≠.cell v
 hok:HOk X.prog X.w H s.heap
 len:σ.length=X.N.length
section
variable {X:Cx}{pins:List (Addr×Obj)}{σ:List (Option V)}{H H':Hp}{s:Shared}{h':Heap}
theorem Cx.Ok.nofr(ok:X.Ok){b:Addr}{o:Obj}(e:X.base.get? b=some o):b∉X.fs:=λhb=>by
 have:=(ok.funs.mem hb).1;rw[e]at this;cases this
theorem Inv.bs(I:Inv X pins σ H s):∀b o,X.base.get? b=some o->s.heap.get? b=some o/\H b=none:=λb o e =>
 ⟨I.base.keep b o (I.ok.bs b o e).1 (I.ok.bs b o e).2 (I.ok.nofr e) (I.ok.noex b o e),I.base.free b o (I.ok.bs b o e).1 (I.ok.bs b o e).2 (I.ok.noex b o e)⟩
theorem Inv.bk(I:Inv X pins σ H s):∀b o,X.base.get? b=some o->s.heap.get? b=some o:=λb o e=>(I.bs b o e).1
theorem Inv.mod(I:Inv X pins σ H s):Mod X.K X.mg X.base:=I.ok.mod
theorem Inv.kIn(I:Inv X pins σ H s):X.K.In s.heap:=I.ok.mod.kin.keeps I.bk
theorem Inv.lt(I:Inv X pins σ H s):X.env.locals<s.heap.objs.size:=let ⟨_,hn,_⟩:=I.loc;hn.lt
theorem Inv.sz(I:Inv X pins σ H s):X.s₀.heap.objs.size<=s.heap.objs.size:=Nat.le_trans I.ok.above (Nat.le_of_lt I.lt)
theorem Inv.nofs(I:Inv X pins σ H s){a:Addr}(h:s.heap.objs.size<=a):a∉X.fs:=λhb=>by
 obtain⟨_,o,ho,_⟩:=I.ok.funs.mem hb;exact absurd (Nat.lt_of_lt_of_le (Heap.lt_size ho) (Nat.le_trans I.sz h)) (Nat.lt_irrefl _)
theorem Inv.cne(I:Inv X pins σ H s):∀x c,X.env.cells.lookup x=some c->c≠X.env.locals:=λx c e z=>by
 obtain⟨v,o,ho,hd⟩:=I.cell x c e;obtain⟨m,⟨o',es,ep,ho',hd',_⟩,_⟩:=I.loc;rw[z,ho']at ho;cases ho;rw[hd']at hd;cases hd
theorem Inv.funs(I:Inv X pins σ H s):s.heap.FunFrames X.base X.outer:=by
 have all:∀(l:List Env),(∀b∈frs l,b∈X.fs)->X.s₀.heap.FunFrames X.base l->s.heap.FunFrames X.base l:=by
  intro l;induction l with
  |nil=>intro _ _;trivial
  |cons env r ih =>
   intro hs hl;obtain⟨hk,⟨L,o,hf,hn,ho,hd⟩,hr⟩:=hl;have hL:L∈X.fs:=hs L (by unfold frs;rw[List.filterMap_cons,hf];exact List.mem_cons_self);obtain⟨sl,e⟩:=I.base.slot L o ho (I.ok.frf L hL) hL λz=>I.ok.exfs L z hL;exact⟨hk,⟨L,_,hf,hn,e,hd⟩,ih (λb hb=>hs b (by unfold frs;rw[List.filterMap_cons,hf];exact List.mem_cons_of_mem _ hb)) hr⟩
 exact all X.outer (λ_ hb=>hb) I.ok.funs
theorem Inv.stack(I:Inv X pins σ H s):s.heap.FunFrames X.base X.stack:=by
 rcases I.ok.stk with e|⟨e,hf⟩
 .rw[e];exact I.funs
 .rw[e];obtain⟨m,hn,_⟩:=I.loc;refine .cons (by rw[I.ok.kind];decide) hf hn ?_ I.funs;exact Heap.get?_none_of_le (Nat.le_trans I.ok.bsz I.ok.above)
theorem Inv.stkSub(I:Inv X pins σ H s):∀b∈frs X.stack,b∈X.env.locals::X.fs:=λb hb=>by
 rcases I.ok.stk with e|⟨e,hf⟩
 .rw[e]at hb;exact List.mem_cons_of_mem _ hb
 .rw[e]at hb;unfold frs at hb;rw[List.filterMap_cons,hf]at hb;exact hb
theorem Inv.stkFree(I:Inv X pins σ H s):∀b∈frs X.stack,H b=none:=λb hb=>by
 rcases List.mem_cons.mp (I.stkSub b hb)with e|hb
 .rw[e];exact I.free
 .obtain⟨_,o,ho,_⟩:=I.ok.funs.mem hb;exact I.base.free b o ho (I.ok.frf b hb) λz=>I.ok.exfs b z hb
theorem Inv.step{g':Array GenState}{t':Nat}{d':Drawn}{ch:List Addr}(I:Inv X pins σ H s)
  (hch:∀b∈ch,(b∈X.ex∨X.s₀.heap.objs.size<=b)/\b≠X.env.locals/\(∀x c,X.env.cells.lookup x=some c->c≠b)/\∀p∈X.pn++pins,p.1≠b)
  (keep:∀b o,b≠X.env.locals->b∉X.fs->b∉ch->s.heap.get? b=some o->H b=none->h'.get? b=some o)
  (slot:∀b o,b≠X.env.locals->b∈X.fs->b∉ch->s.heap.get? b=some o->H b=none->∃sl,h'.get? b=some {o with slots:=sl}) (free:∀b o,b∉ch->s.heap.get? b=some o->H b=none->H' b=none)
  (there:∀b o,b∉ch->s.heap.get? b=some o->∃o',h'.get? b=some o')
  (tups:∀b xs,H b=some (.tup xs)->H' b=some (.tup xs)) (frzs:∀b o u,H b=some (.frz o u)->H' b=some (.frz o u)) (tbls:∀b ps,H b=some (.tbl ps)->∃more,H' b=some (.tbl (ps++more)))
  (ns:∀m,s.heap.Ns X.env.locals m->h'.Ns X.env.locals m) (hok:HOk X.prog X.w H' h') (hg:AllBare g') :
  Inv X pins σ H' {s with heap:=h',gens:=g',drawn:=d',toks:=t'}:=by
 have neL:∀b o,X.s₀.heap.get? b=some o->b≠X.env.locals:=λb o e=>Nat.ne_of_lt (Nat.lt_of_lt_of_le (Heap.lt_size e) I.ok.above);have neC:∀b o,X.s₀.heap.get? b=some o->b∉X.ex->b∉ch:=λb o e hx hb=>by
  rcases(hch b hb).1 with z|z
  .exact hx z
  .exact absurd (Nat.lt_of_lt_of_le (Heap.lt_size e) z) (Nat.lt_irrefl _)
 have cellK:∀x c,X.env.cells.lookup x=some c->∀v,s.heap.IsCell c v->h'.IsCell c v:=λx c e v ⟨o,ho,hd⟩=>by
  have nch:c∉ch:=λz=>(hch c z).2.2.1 x c e rfl;by_cases hc:c∈X.fs
  .obtain⟨sl,q⟩:=slot c o (I.cne x c e) hc nch ho (I.freeC x c e);exact⟨_,q,hd⟩
  .exact⟨o,keep c o (I.cne x c e) hc nch ho (I.freeC x c e),hd⟩
 refine⟨I.ok,I.os,hg,⟨λb o e n hb hx=>?_,λb o e n hb hx=>?_,λb o e n hx=>?_,λb o e hx=>?_,λb xs e=>tups b xs (I.base.tups b xs e),λb o xs e=>frzs b o xs (I.base.frzs b o xs e),λb ps e=>?_⟩,?_,λx c e=>?_,?_,λx c e=>?_,λp hp=>?_,hok,I.len⟩
 .exact keep b o (neL b o e) hb (neC b o e hx) (I.base.keep b o e n hb hx) (I.base.free b o e n hx)
 .obtain⟨sl,e1⟩:=I.base.slot b o e n hb hx;obtain⟨sl',e2⟩:=slot b _ (neL b o e) hb (neC b o e hx) e1 (I.base.free b o e n hx);exact⟨sl',e2⟩
 .obtain⟨o',e1⟩:=I.base.there b o e hx;exact free b o' (neC b o e hx) e1 (I.base.free b o e n hx)
 .obtain⟨o',e1⟩:=I.base.there b o e hx;exact there b o' (neC b o e hx) e1
 .obtain⟨m1,e1⟩:=I.base.tbls b ps e;obtain⟨m2,e2⟩:=tbls b _ e1;exact⟨m1++m2,by rw[e2,Array.append_assoc]⟩
 .obtain⟨m,hn,hl⟩:=I.loc;refine⟨m,ns m hn,λi x v e1 e2 e3=>?_⟩;obtain⟨u,r,l⟩:=hl i x v e1 e2 e3;refine⟨u,r,?_⟩;rcases l with l|⟨k,c,e,z⟩
  .exact .inl l
  .exact .inr ⟨k,c,e,cellK x c e _ z⟩
 .obtain⟨v,z⟩:=I.cell x c e;exact⟨v,cellK x c e v z⟩
 .obtain⟨m,⟨o,_,_,ho,_⟩,_⟩:=I.loc;exact free _ o (λz=>(hch _ z).2.1 rfl) ho I.free
 .obtain⟨v,o,ho,hd⟩:=I.cell x c e;exact free c o (λz=>(hch c z).2.2.1 x c e rfl) ho (I.freeC x c e)
 .obtain⟨e,n,ne,nf,d⟩:=I.pin p hp;have nch:p.1∉ch:=λz=>(hch p.1 z).2.2.2 p hp rfl;exact⟨keep p.1 p.2 ne nf nch e n,free p.1 p.2 nch e n,ne,nf,d⟩
theorem Inv.un{t':Nat}(I:Inv X pins σ H s)(u:Un X.fs [] H H' s.heap h')(hok:HOk X.prog X.w H' h'):Inv X pins σ H' {s with heap:=h',toks:=t'}:=by
 obtain⟨m,⟨o,es,ep,ho,r⟩,_⟩:=id I.loc;obtain⟨sl,hL⟩:=u.any ho I.free (by simp);exact I.step (g':=s.gens) (d':=s.drawn) (ch:=[]) (λ_ z=>nomatch z) (λb o _ hb _ e n=>u.keep b o e n hb (by simp)) (λb o _ hb _ e n=>u.slot b o e n hb (by simp)) (λb o _ e n=>u.free b o e n (by simp)) (λb o _ e=>u.there b o e (by simp)) u.tups u.frzs u.tbls (λm' hm=>by
  obtain⟨o',es',ep',ho',r'⟩:=hm;rw[ho]at ho';cases ho';exact⟨_,es',ep',hL,r'⟩) hok I.bare
theorem Inv.call{g':Array GenState}{t':Nat}{d':Drawn}{ch:List Addr}(I:Inv X pins σ H s)(u:Un (frs X.stack) ch H H' s.heap h')(hok:HOk X.prog X.w H' h')(hg:AllBare g')
  (hch:∀b∈ch,(b∈X.ex∨X.s₀.heap.objs.size<=b)/\b≠X.env.locals/\(∀x c,X.env.cells.lookup x=some c->c≠b)/\∀p∈X.pn++pins,p.1≠b) :
  Inv X pins σ H' {s with heap:=h',gens:=g',drawn:=d',toks:=t'}:=by
 obtain⟨m,⟨o,es,ep,ho,r⟩,_⟩:=id I.loc;obtain⟨sl,hL⟩:=u.any ho I.free λz=>(hch _ z).2.1 rfl;exact I.step (ch:=ch) hch (λb o hL hb hc e n=>u.keep b o e n (λz=>(List.mem_cons.mp (I.stkSub b z)).elim hL hb) hc) (λb o _ _ hc e n=>u.any e n hc) (λb o hc e n=>u.free b o e n hc) (λb o hc e=>u.there b o e hc) u.tups u.frzs u.tbls (λm' hm=>by
  obtain⟨o',es',ep',ho',r'⟩:=hm;rw[ho]at ho';cases ho';exact⟨_,es',ep',hL,r'⟩) hok hg
theorem Inv.turned{t':Nat}{it:Addr}(I:Inv X pins σ H s)(k:∀b o,b≠it->s.heap.get? b=some o->h'.get? b=some o)(hn:H it=none)(hL:it≠X.env.locals)
  (h1:it∈X.ex∨X.s₀.heap.objs.size<=it) (h2:∀x c,X.env.cells.lookup x=some c->c≠it) (h3:∀p∈X.pn++pins,p.1≠it):Inv X pins σ H {s with heap:=h',toks:=t'}:=by
 have nit:∀b u,H b=some u->b≠it:=λb u e z=>by rw[z,hn]at e;cases e
 refine I.step (g':=s.gens) (d':=s.drawn) (ch:=[it]) (λb hb=>?_) (λb o _ _ hc e _=>k b o (λz=>hc (by simp[z])) e) (λb o _ _ hc e _=>⟨o.slots,k b o (λz=>hc (by simp[z])) e⟩) (λ_ _ _ _ n=>n)
  (λb o hc e=>⟨o,k b o (λz=>hc (by simp[z])) e⟩) (λ_ _ e=>e) (λ_ _ _ e=>e) (λb ps e=>⟨#[],by rw[e];simp⟩) (λm hm=>?_) (λb u e=>?_) I.bare
 .have e:b=it:=by simpa using hb
  subst e;exact⟨h1,hL,h2,h3⟩
 .obtain⟨o,es,ep,ho,r⟩:=hm;exact⟨o,es,ep,k _ o (Ne.symm hL) ho,r⟩
 .refine(I.hok b u e).stay (λc v hc q=>k c v ?_ q) (λ_ q=>q) λ_ _ q=>q;rcases hc with z|z
  .rw[z];exact nit b u e
  .exact nit c _ z
theorem Inv.tok(I:Inv X pins σ H s)(t:Nat):Inv X pins σ H {s with toks:=t}:=I.un (h':=s.heap) (t':=t) Un.refl I.hok
theorem Inv.kept{t':Nat}(I:Inv X pins σ H s)(k:∀b u,s.heap.get? b=some u->h'.get? b=some u):Inv X pins σ H {s with heap:=h',toks:=t'}:=I.un (Un.kept k) (I.hok.kept k)
theorem Inv.laid{a:Addr}{o:HO}{t':Nat}(I:Inv X pins σ H s)(k:∀b u,s.heap.get? b=some u->h'.get? b=some u)(hp:s.heap.objs.size<=a)(new:ObjOk X.prog X.w (upd H a o) h' a o) :
  Inv X pins σ (upd H a o) {s with heap:=h',toks:=t'}:=I.un (Un.laid k hp (I.hok.fresh hp)) (I.hok.laid k hp new)
theorem Inv.write{x e:Addr}{o:HO}{t':Nat}(I:Inv X pins σ H s)(mu:Mut (H x))(he:e=x∨H e=some (.own x))(k:∀b u,b≠e->s.heap.get? b=some u->h'.get? b=some u)(heo:∃u,h'.get? e=some u)
  (new:ObjOk X.prog X.w (upd H x o) h' x o):Inv X pins σ (upd H x o) {s with heap:=h',toks:=t'}:=I.un (Un.write mu he k heo) (I.hok.write mu he k heo new)
theorem Inv.weak{σ':List (Option V)}(I:Inv X pins σ H s)(hl:σ'.length=σ.length)(w:∀(i:Nat) v,σ'[i]?=some (some v)->σ[i]?=some (some v)):Inv X pins σ' H s :=
 ⟨I.ok,I.os,I.bare,I.base,let ⟨m,hn,hl'⟩:=I.loc;⟨m,hn,λi x v e1 e2 e3=>hl' i x v e1 (w i v e2) e3⟩,I.cell,I.free,I.freeC,I.pin,I.hok,hl.trans I.len⟩
theorem Inv.pins_of{pins':List (Addr×Obj)}(I:Inv X pins σ H s)(h:∀p∈pins',s.heap.get? p.1=some p.2/\H p.1=none/\p.1≠X.env.locals/\p.1∉X.fs/\∀v,p.2.data≠.cell v):Inv X pins' σ H s :=
 ⟨I.ok,I.os,I.bare,I.base,I.loc,I.cell,I.free,I.freeC,λp hp=>(List.mem_append.mp hp).elim (λz=>I.pin p (List.mem_append_left _ z)) (h p),I.hok,I.len⟩
theorem a3R{N:List Str}(hN:N.Nodup){i j:Nat}{x:Str}(a:N[i]?=some x)(b:N[j]?=some x):i=j:=by
 obtain⟨h1,e1⟩:=List.getElem?_eq_some_iff.mp a;obtain⟨h2,e2⟩:=List.getElem?_eq_some_iff.mp b;exact(List.getElem_inj hN).mp (e1.trans e2.symm)
theorem a2k{M:Model}{A:Around}{E:Value->Shared->Prop}{i:Nat}{x:Str}{v:V}{u:Value}{Q:Unit->Shared->Prop}(I:Inv X pins σ H s)(hN:X.N.Nodup)(hi:X.N[i]?=some x)(hx:Loc X.env.scope x)(r:RelV v u)
  (h:∀s',Inv X pins (σ.set i (some v)) H s'->(∃a,Heap.SameBut a s.heap s'.heap/\(a=X.env.locals∨X.env.cells.lookup x=some a))->Q () s') (hf:X.fn x=true∨X.env.scope.names.lookup x=some .local:=by first|exact .inl rfl|exact .inr rfl|assumption):wpAny M A (storeName X.env x u) Q E s:=by
 obtain⟨m,hn,hl⟩:=id I.loc;have hcls:(X.env.scope.kind==.class || (X.env.scope.kind==.module && X.env.locals != X.env.globals))=false:=by rw[I.ok.kind];rfl
 have hiσ:i<σ.length:=by rw[I.len];exact(List.getElem?_eq_some_iff.mp hi).1
 have cne:=I.cne;have tracked:∀{a:Addr}{h':Heap},(∃o,s.heap.get? a=some o/\H a=none)->Heap.SameBut a s.heap h'->HOk X.prog X.w H h':=λ{a h'} ha hs b ob e=>by
  obtain⟨_,_,hfree⟩:=ha;refine(I.hok b ob e).stay (λc w' hc q=>(hs.2 c ?_).trans q) (λ_ q=>q) λ_ _ q=>q;rintro rfl;rcases hc with rfl|hc
  .rw[hfree]at e;cases e
  .rw[hfree]at hc;cases hc
 rcases hx with hk|hk
 .refine wpAny_storeName_local hk hn (λh' hn' hs=>?_) hcls;obtain⟨oL,_,_,hoL,_⟩:=id hn;refine h _ ⟨I.ok,I.os,I.bare,⟨λb o e n hb hx=>?_,λb o e n hb hx=>?_,I.base.free,λb o e hx=>?_,I.base.tups,I.base.frzs,I.base.tbls⟩,⟨_,hn',λj y v' e1 e2 e3=>?_⟩,λy c e=>?_,I.free,I.freeC,λp hp=>?_,tracked ⟨oL,hoL,I.free⟩ hs,by simpa using I.len⟩ ⟨_,hs,.inl rfl⟩
  .exact(hs.2 b (Nat.ne_of_lt (Nat.lt_of_lt_of_le (Heap.lt_size e) I.ok.above))).trans (I.base.keep b o e n hb hx)
  .obtain⟨sl,e1⟩:=I.base.slot b o e n hb hx;exact⟨sl,(hs.2 b (Nat.ne_of_lt (Nat.lt_of_lt_of_le (Heap.lt_size e) I.ok.above))).trans e1⟩
  .obtain⟨o',e1⟩:=I.base.there b o e hx;exact⟨o',(hs.2 b (Nat.ne_of_lt (Nat.lt_of_lt_of_le (Heap.lt_size e) I.ok.above))).trans e1⟩
  .by_cases hj:j=i
   .subst hj;rw[hi]at e1;cases e1;rw[List.getElem?_set_self hiσ]at e2;cases e2;exact⟨u,r,.inl ⟨hk,by simp⟩⟩
   .rw[List.getElem?_set_ne (Ne.symm hj)]at e2;obtain⟨u',r',q⟩:=hl j y v' e1 e2 e3;refine⟨u',r',?_⟩;rcases q with⟨k,e⟩|⟨k,c,e,z⟩
    .refine .inl ⟨k,?_⟩;have:y≠x:=λe=>hj (a3R hN e1 (e ▸ hi));simp[this,e]
    .exact .inr ⟨k,c,e,z.sameBut hs (cne y c e)⟩
  .obtain⟨w',z⟩:=I.cell y c e;exact⟨w',z.sameBut hs (cne y c e)⟩
  .obtain⟨e,n,ne,nf,d⟩:=I.pin p hp;exact⟨(hs.2 p.1 ne).trans e,n,ne,nf,d⟩
 .have hfn:X.fn x=true:=by
   rcases hf with z|z
   .exact z
   .rw[z]at hk;cases hk
  obtain⟨c,hc⟩:=I.ok.has x (.inl hk);obtain⟨w',z⟩:=I.cell x c hc;refine wpAny_storeName_cell I.ok.kind hk hc z (λh' hc' hs=>?_);obtain⟨oc,hoc,hocd⟩:=id z;refine h {s with heap:=h'} ⟨I.ok,I.os,I.bare,⟨λb o e n hb hx=>?_,λb o e n hb hx=>?_,I.base.free,λb o e hx=>?_,I.base.tups,I.base.frzs,I.base.tbls⟩,⟨m,hn.sameBut hs (Ne.symm (cne x c hc)),λj y v' e1 e2 e3=>?_⟩,λy c' e=>?_,I.free,I.freeC,λp hp=>?_,tracked ⟨oc,hoc,I.freeC x c hc⟩ hs,by simpa using I.len⟩ ⟨c,hs,.inr hc⟩
  .exact(hs.2 b (Nat.ne_of_lt (Nat.lt_of_lt_of_le (Heap.lt_size e) (I.ok.cab x c hfn hc)))).trans (I.base.keep b o e n hb hx)
  .obtain⟨sl,e1⟩:=I.base.slot b o e n hb hx;exact⟨sl,(hs.2 b (Nat.ne_of_lt (Nat.lt_of_lt_of_le (Heap.lt_size e) (I.ok.cab x c hfn hc)))).trans e1⟩
  .obtain⟨o',e1⟩:=I.base.there b o e hx;exact⟨o',(hs.2 b (Nat.ne_of_lt (Nat.lt_of_lt_of_le (Heap.lt_size e) (I.ok.cab x c hfn hc)))).trans e1⟩
  .by_cases hj:j=i
   .subst hj;rw[hi]at e1;cases e1;rw[List.getElem?_set_self hiσ]at e2;cases e2;exact⟨u,r,.inr ⟨.inl hk,c,hc,hc'⟩⟩
   .rw[List.getElem?_set_ne (Ne.symm hj)]at e2;obtain⟨u',r',q⟩:=hl j y v' e1 e2 e3;refine⟨u',r',?_⟩;rcases q with q|⟨k,c',e,z'⟩
    .exact .inl q
    .refine .inr ⟨k,c',e,z'.sameBut hs ?_⟩;rintro rfl;exact hj (a3R hN e1 (I.ok.inj _ _ _ e hc ▸ hi))
  .by_cases hcc:c'=c
   .subst hcc;exact⟨_,hc'⟩
   .obtain⟨w2,z2⟩:=I.cell y c' e;exact⟨w2,z2.sameBut hs hcc⟩
  .obtain⟨e,n,ne,nf,d⟩:=I.pin p hp;refine⟨(hs.2 p.1 ?_).trans e,n,ne,nf,d⟩;intro q;rw[q,hoc]at e;have q':oc=p.2:=Option.some.inj e;exact d w' (by rw[<-q'];exact hocd)
theorem a3D{M:Model}{A:Around}{E:Value->Shared->Prop}{i:Nat}{x:Str}{v:V}{u:Value}{Q:Unit->Shared->Prop}(I:Inv X pins σ H s)(hN:X.N.Nodup)(hi:X.N[i]?=some x)(hx:Loc X.env.scope x)(r:RelV v u)
  (h:∀s',Inv X pins (σ.set i (some v)) H s'->Q () s') (hf:X.fn x=true∨X.env.scope.names.lookup x=some .local:=by first|exact .inl rfl|exact .inr rfl|assumption):wpAny M A (storeName X.env x u) Q E s :=
 a2k I hN hi hx r (λs' I' _=>h s' I') hf
theorem Inv.call'{s':Shared}{ch:List Addr}(I:Inv X pins σ H s)(ho:s'.os=s.os)(u:Un (frs X.stack) ch H H' s.heap s'.heap)(hok:HOk X.prog X.w H' s'.heap)(hg:AllBare s'.gens)
  (hch:∀b∈ch,(b∈X.ex∨X.s₀.heap.objs.size<=b)/\b≠X.env.locals/\(∀x c,X.env.cells.lookup x=some c->c≠b)/\∀p∈X.pn++pins,p.1≠b):Inv X pins σ H' s':=by
 obtain⟨h',g',d',t',o'⟩:=s';have e:o'=s.os:=ho;subst e;exact I.call (g':=g') (t':=t') (d':=d') u hok hg hch
end
abbrev XK:=Value->Option Addr->Hp->Prop
abbrev St:=List (Option V)
abbrev VK:=V->Hp->Prop
abbrev TE:=St->Hp->VK->Prop
abbrev TT:=St->Hp->(Bool->Hp->Prop)->Prop
abbrev TA:=St->Hp->(List V->Hp->Prop)->Prop
structure Ends where
 nx:St->Hp->Prop
 rt:VK
 bk:St->Hp->Prop:=λ_ _=>False
 ct:St->Hp->Prop:=λ_ _=>False
abbrev TS:=Ends->St->Hp->Prop
def EP(X:Cx)(pins:List (Addr×Obj))(σ:St)(Q:VK)(u:Value)(s':Shared):Prop:=∃v H',Inv X pins σ H' s'/\RelV v u/\Q v H'
def TP(X:Cx)(pins:List (Addr×Obj))(σ:St)(Q:Bool->Hp->Prop)(b:Bool)(s':Shared):Prop:=∃H',Inv X pins σ H' s'/\Q b H'
def AP(X:Cx)(pins:List (Addr×Obj))(σ:St)(Q:List V->Hp->Prop)(us:List Value)(s':Shared):Prop:=∃vs H',Inv X pins σ H' s'/\Vals vs us/\Q vs H'
def SP(X:Cx)(pins:List (Addr×Obj))(D:Ends)(f:Flow)(s':Shared):Prop :=
 match f with
 |.next=>∃σ' H',Inv X pins σ' H' s'/\D.nx σ' H'
 |.brk=>∃σ' H',Inv X pins σ' H' s'/\D.bk σ' H'
 |.cont=>∃σ' H',Inv X pins σ' H' s'/\D.ct σ' H'
 |.ret u=>∃v σ' H',Inv X pins σ' H' s'/\RelV v u/\D.rt v H'
def PE(X:Cx)(e:Expr)(t:TE):Prop :=
 ∀(pins:List (Addr×Obj)) (s:Shared) (σ:St) (H:Hp) (Q:VK),Inv X pins σ H s->t σ H Q->wpAny (model X.prog X.w) X.A (eval e X.env) (EP X pins σ Q) X.xe s
def PT(X:Cx)(e:Expr)(t:TT):Prop :=
 ∀(pins:List (Addr×Obj)) (s:Shared) (σ:St) (H:Hp) (Q:Bool->Hp->Prop),Inv X pins σ H s->t σ H Q->wpAny (model X.prog X.w) X.A (isTrue e X.env (eval e X.env)) (TP X pins σ Q) X.xe s
def PW(X:Cx)(e:Expr)(t:TT):Prop :=
 ∀(whole:Sem Value) (pins:List (Addr×Obj)) (s:Shared) (σ:St) (H:Hp) (Q:Bool->Hp->Prop),Inv X pins σ H s->t σ H Q->wpAny (model X.prog X.w) X.A (isTrue e X.env whole) (TP X pins σ Q) X.xe s
theorem PW.pt{X:Cx}{e:Expr}{t:TT}(h:PW X e t):PT X e t:=h _
def PA(X:Cx)(es:List Expr)(t:TA):Prop :=
 ∀(pos:Pos) (pins:List (Addr×Obj)) (s:Shared) (σ:St) (H:Hp) (Q:List V->Hp->Prop),Inv X pins σ H s->t σ H Q->wpAny (model X.prog X.w) X.A (spliced (backTo pos (starEach es X.env))) (AP X pins σ Q) X.xe s
def PS(X:Cx)(st:Stmt)(t:TS):Prop :=
 ∀(pins:List (Addr×Obj)) (s:Shared) (σ:St) (H:Hp) (D:Ends),Inv X pins σ H s->t D σ H->wpAny (model X.prog X.w) X.A (exec st X.env) (SP X pins D) X.xe s
def PSs(X:Cx)(st:List Stmt)(t:TS):Prop :=
 ∀(pins:List (Addr×Obj)) (s:Shared) (σ:St) (H:Hp) (D:Ends),Inv X pins σ H s->t D σ H->wpAny (model X.prog X.w) X.A (execs st X.env) (SP X pins D) X.xe s
theorem thn{α:Type}{t:Sem α}{Q Q':α->Shared->Prop}{M:Model}{A:Around}{E:Value->Shared->Prop}{s:Shared}(h:wpAny M A t Q E s)(hQ:∀a s,Q a s->Q' a s):wpAny M A t Q' E s:=wpAny_mono h hQ λ_ _ x=>x
section
variable {X:Cx}
def Y6(i:Nat):TE:=λσ H Q=>∃v,σ[i]?=some (some v)/\Q v H
def tC(v:V):TE:=λ_ H Q=>Q v H
theorem a7Q{i:Nat}{x:Str}{pos:Pos}(hN:X.N[i]?=some x)(hv:Vis X.env.scope x)(hd:(x==("__debug__" : Str))=false:=by decide)(hcd:(x==("__classdict__" : Str))=false:=by decide):PE X (.Name x pos) (Y6 i):=by
 intro pins s σ H Q I h;obtain⟨v,e,h⟩:=h;obtain⟨m,hn,hl⟩:=I.loc;obtain⟨u,r,l⟩:=hl i x v hN e hv;have fin:EP X pins σ Q u s:=⟨v,H,I,r,h⟩;rcases l with⟨hk,hm⟩|⟨hk,c,hc,hcell⟩
 .exact wpAny_Name (wpAny_loadName_local I.ok.kind hk hn hm fin) hd
 .rcases hk with hk|hk
  .exact wpAny_Name (wpAny_loadName_cell I.ok.kind hk hc hcell fin) hd
  .exact wpAny_Name (wpAny_loadName_free I.ok.kind hk hc hcell fin hcd) hd
theorem b2r{i j pos}:PE X (.Constant (.int i) j pos) (tC (.int i)):=λ_ _ _ H _ I h=>wpAny_Constant_int ⟨.int i,H,I.tok _,⟨_,rfl⟩,h⟩
theorem b4y{b j pos}:PE X (.Constant (.bool b) j pos) (tC (.bl b)):=λ_ _ _ H _ I h=>Constant_bool ⟨.bl b,H,I,rfl,h⟩
theorem b2p{j pos}:PE X (.Constant .none j pos) (tC .non):=λ_ _ _ H _ I h=>Constant_none ⟨.non,H,I,rfl,h⟩
theorem b2m{x j pos}:PE X (.Constant (.str x) j pos) (tC (.str x)):=λ_ _ _ H _ I h=>Calls.Constant_str ⟨.str x,H,I.tok _,⟨_,rfl⟩,h⟩
def Gl(X:Cx)(x:Str):Prop:=X.env.kindOf x=some .globalImplicit
theorem a3d{E:Value->Shared->Prop}{pins:List (Addr×Obj)}{s:Shared}{σ:St}{H:Hp}{x:Str}{u:Value}{pos:Pos}{Q:Value->Shared->Prop}(I:Inv X pins σ H s)(hg:Gl X x)(hm:X.mg x=some u)(h:Q u s)
  (hd:(x==("__debug__" : Str))=false:=by decide):wpAny (model X.prog X.w) X.A (eval (.Name x pos) X.env) Q E s :=
 Calls.Name_function_global I.ok.kind hg (Calls.loadGlobal_global (by rw[I.ok.glob];exact I.mod.glob.keeps I.bk) hm h) hd
theorem a0q{E:Value->Shared->Prop}{pins:List (Addr×Obj)}{s:Shared}{σ:St}{H:Hp}{x:Str}{u:Value}{pos:Pos}{Q:Value->Shared->Prop}(I:Inv X pins σ H s)(hg:Gl X x)(hm:X.mg x=none)(hv:bootBuiltins x=some u)(h:Q u s)
  (hn:x≠"__name__":=by decide) (hd:(x==("__debug__" : Str))=false:=by decide):wpAny (model X.prog X.w) X.A (eval (.Name x pos) X.env) Q E s:=by
 obtain⟨mb,h1,h2⟩:=I.mod.blt;exact Calls.Name_function_global I.ok.kind hg (Calls.loadGlobal_builtin (by rw[I.ok.glob];exact I.mod.glob.keeps I.bk) hm (by rw[I.ok.blt];exact h1.keeps I.bk) ((h2 x hn).trans hv) h) hd
theorem a9Q{x:Str}{v:V}{u:Value}{pos:Pos}(hg:Gl X x)(hm:X.mg x=some u)(r:RelV v u)(hd:(x==("__debug__" : Str))=false:=by decide):PE X (.Name x pos) (tC v) :=
 λ_ _ _ H _ I h=>a3d I hg hm ⟨v,H,I,r,h⟩ hd
theorem a9V{x:Str}{v:V}{u:Value}{pos:Pos}(hg:Gl X x)(hm:X.mg x=none)(hv:bootBuiltins x=some u)(r:RelV v u)(hn:x≠"__name__":=by decide)(hd:(x==("__debug__" : Str))=false:=by decide):PE X (.Name x pos) (tC v) :=
 λ_ _ _ H _ I h=>a0q I hg hm hv ⟨v,H,I,r,h⟩ hn hd
variable {a b:Expr}{ta tb:TE}{pos:Pos}
def PC(X:Cx)(op:CmpOp)(a b:Expr)(t:TE):Prop :=
 ∀(pins:List (Addr×Obj)) (s:Shared) (σ:St) (H:Hp) (Q:VK),Inv X pins σ H s->t σ H Q ->
  wpAny (model X.prog X.w) X.A (eval a X.env) (λv s₁=>wpAny (model X.prog X.w) X.A (eval b X.env) (λu s₂=>wpAny (model X.prog X.w) X.A (compareOp op v u) (EP X pins σ Q) X.xe s₂) X.xe s₁) X.xe s
def tB(t:TE):TT:=λσ H Q=>t σ H λx H1=>∃c,x=.bl c/\Q c H1
theorem b2t{op:CmpOp}{t:TE}(h:PC X op a b t)(h1:behindInMarks op b=false:=by first|exact nobehind _ (by decide) (by decide)|rfl):PE X (.Compare a [op] [b] pos) t:=λpins s σ H Q I hw=>wpAny_Compare1 (h pins s σ H Q I hw) h1
theorem b1Y{op:CmpOp}{t:TE}(h:PC X op a b t)(h1:behindInMarks op b=false:=by first|exact nobehind _ (by decide) (by decide)|rfl):PT X (.Compare a [op] [b] pos) (tB t):=by
 intro pins s σ H Q I hw;refine wpAny_isTrue_Compare1 (thn (h pins s σ H _ I hw) λv s1 h1=>thn h1 λu s2 h2=>thn h2 λc s3 ⟨x,H1,I1,r1,q1⟩=>?_) h1;obtain⟨d,rfl,q⟩:=q1;cases r1;exact wpAny_truthy_bool ⟨H1,I1,q⟩
variable {tA tB':TT}{rest:List Expr}
def b3V(t u:TT):TT:=λσ H Q=>t σ H λc H1=>if c=true then u σ H1 Q else Q false H1
def tOr(t u:TT):TT:=λσ H Q=>t σ H λc H1=>if c=true then Q true H1 else u σ H1 Q
def b3R(t:TT):TT:=λσ H Q=>t σ H λc H1=>Q (!c) H1
theorem pw_and1(ha:PT X a tA):PW X (.BoolOp .And [a] pos) tA:=by
 intro wh pins s σ H Q I h;refine isTrue_and (thn (ha pins s σ H Q I h) λc s1 e=>?_);cases c with
 |true=>exact isTrue_and_nil e
 |false=>exact e
theorem pw_or1(ha:PT X a tA):PW X (.BoolOp .Or [a] pos) tA:=by
 intro wh pins s σ H Q I h;refine isTrue_or (thn (ha pins s σ H Q I h) λc s1 e=>?_);cases c with
 |false=>exact isTrue_or_nil e
 |true=>exact e
theorem pw_and(ha:PT X a tA)(hb:PW X (.BoolOp .And (b::rest) pos) tB'):PW X (.BoolOp .And (a::b::rest) pos) (b3V tA tB'):=by
 intro wh pins s σ H Q I h;refine isTrue_and (thn (ha pins s σ H _ I h) λc s1 ⟨H1,I1,q1⟩=>?_);cases c with
 |true=>exact hb wh pins s1 σ H1 Q I1 q1
 |false=>exact⟨H1,I1,q1⟩
theorem pw_or(ha:PT X a tA)(hb:PW X (.BoolOp .Or (b::rest) pos) tB'):PW X (.BoolOp .Or (a::b::rest) pos) (tOr tA tB'):=by
 intro wh pins s σ H Q I h;refine isTrue_or (thn (ha pins s σ H _ I h) λc s1 ⟨H1,I1,q1⟩=>?_);cases c with
 |true=>exact⟨H1,I1,q1⟩
 |false=>exact hb wh pins s1 σ H1 Q I1 q1
theorem b1X(ha:PT X a tA):PT X (.UnaryOp .Not a pos) (b3R tA):=by
 intro pins s σ H Q I h;exact isTrue_not (ha pins s σ H (λc H1=>Q (!c) H1) I h)
def b0P(ta tb:TE):TE:=λσ H Q=>ta σ H λx H1=>∃c,x=.bl c/\if c=true then tb σ H1 Q else Q (.bl false) H1
def b3Q(ta tb:TE):TE:=λσ H Q=>ta σ H λx H1=>∃c,x=.bl c/\if c=true then Q (.bl true) H1 else tb σ H1 Q
def b0K(ta:TE):TE:=λσ H Q=>ta σ H λx H1=>∃c,x=.bl c/\Q (.bl (!c)) H1
theorem b2n{op}{t:TE}(h:PE X a t):PE X (.BoolOp op [a] pos) t:=λpins s σ H Q I hw=>BoolOp_one (h pins s σ H Q I hw)
theorem b2v(ha:PE X a ta)(hb:PE X (.BoolOp .And (b::rest) pos) tb):PE X (.BoolOp .And (a::b::rest) pos) (b0P ta tb):=by
 intro pins s σ H Q I h;refine BoolOp_and (thn (ha pins s σ H _ I h) λv s1 ⟨x,H1,I1,r1,q1⟩=>?_);obtain⟨c,rfl,q1⟩:=q1;cases r1;refine wpAny_truthy_bool ?_;cases c with
 |true=>exact hb pins s1 σ H1 Q I1 q1
 |false=>exact⟨.bl false,H1,I1,rfl,q1⟩
theorem b4w(ha:PE X a ta)(hb:PE X (.BoolOp .Or (b::rest) pos) tb):PE X (.BoolOp .Or (a::b::rest) pos) (b3Q ta tb):=by
 intro pins s σ H Q I h;refine BoolOp_or (thn (ha pins s σ H _ I h) λv s1 ⟨x,H1,I1,r1,q1⟩=>?_);obtain⟨c,rfl,q1⟩:=q1;cases r1;refine wpAny_truthy_bool ?_;cases c with
 |false=>exact hb pins s1 σ H1 Q I1 q1
 |true=>exact⟨.bl true,H1,I1,rfl,q1⟩
theorem b2o(ha:PE X a ta):PE X (.UnaryOp .Not a pos) (b0K ta):=by
 intro pins s σ H Q I h;refine UnaryOp_ (thn (ha pins s σ H _ I h) λv s1 ⟨x,H1,I1,r1,q1⟩=>?_);obtain⟨c,rfl,q1⟩:=q1;cases r1;exact not_of (wpAny_truthy_bool ⟨.bl (!c),H1,I1,rfl,q1⟩)
def tIf(t:TT)(ta tb:TE):TE:=λσ H Q=>t σ H λc H1=>if c=true then ta σ H1 Q else tb σ H1 Q
theorem a7V{c:Expr}(hc:PT X c tA)(ha:PE X a ta)(hb:PE X b tb):PE X (.IfExp c a b pos) (tIf tA ta tb):=by
 intro pins s σ H Q I h;refine wpAny_IfExp (thn (hc pins s σ H _ I h) λd s1 ⟨H1,I1,q1⟩=>?_);cases d with
 |true=>exact ha pins s1 σ H1 Q I1 q1
 |false=>exact hb pins s1 σ H1 Q I1 q1
end
def SqL(K:PySem.W.Frag)(H:Hp)(a:Addr)(xs:List V):Prop :=
 Rd H a (.lst xs) ∨
  ∃(o:Obj) (its:Array Value) (n:Nat),K.lookup a=some o/\o.cls=.type "list"/\o.dict=none/\o.data=.seq its n/\its.size<=sizeLine/\Vals xs its.toList
def SqT(K:PySem.W.Frag)(H:Hp)(a:Addr)(xs:List V):Prop :=
 Rd H a (.tup xs) ∨
  ∃(o:Obj) (its:Array Value) (n:Nat),K.lookup a=some o/\o.cls=.type "tuple"/\o.data=.seq its n/\its.size<=sizeLine/\Vals xs its.toList
noncomputable def b4Z:Value->Option V
 |.none=>some .non
 |.bool b=>some (.bl b)
 |.int i _=>some (.int i)
 |.str x _=>some (.str x)
 |.bytes b _=>some (.byt b)
 |.float b _=>some (.flt b)
 |.ref a=>some (.ref a)
 |.type n=>some (.ty n)
 |_=>none
theorem RelV.abs{x:V}{u:Value}(r:RelV x u):b4Z u=some x:=by
 cases x with
 |non=>cases r;rfl
 |bl _=>cases r;rfl
 |int _=>obtain⟨t,rfl⟩:=r;rfl
 |str _=>obtain⟨t,rfl⟩:=r;rfl
 |byt _=>obtain⟨t,rfl⟩:=r;rfl
 |flt _=>obtain⟨t,rfl⟩:=r;rfl
 |ref _=>cases r;rfl
 |ty _=>cases r;rfl
theorem RelV.inj{x y:V}{u:Value}(r:RelV x u)(q:RelV y u):x=y:=Option.some.inj (r.abs.symm.trans q.abs)
theorem Vals.inj:∀{xs ys:List V}{us:List Value},Vals xs us->Vals ys us->xs=ys
 |_,_,_,.nil,.nil=>rfl
 |_,_,_,.cons r t,.cons r' t'=>by rw[r.inj r',Vals.inj t t']
section
variable {X:Cx}{pins:List (Addr×Obj)}{σ:St}{H:Hp}{s:Shared}{a:Addr}{xs ys:List V}
theorem SqL.of{K:PySem.W.Frag}(h:H a=some (.lst xs)):SqL K H a xs:=.inl (.inl h)
theorem SqT.of{K:PySem.W.Frag}(h:H a=some (.tup xs)):SqT K H a xs:=.inl (.inl h)
theorem Inv.list(I:Inv X pins σ H s)(h:SqL X.K H a xs):∃its:List Value,Vals xs its/\PlainL s.heap a its.toArray/\xs.length<=sizeLine:=by
 rcases h with h|⟨o,its,n,hk,hc,hd,hs,hz,r⟩
 .obtain⟨z,its,n,r,e⟩:=h.ok I.hok;exact⟨its,r,⟨_,n,e,rfl,rfl,rfl⟩,z⟩
 .refine⟨its.toList,r,⟨o,n,I.kIn a o hk,hc,hd,by simpa using hs⟩,?_⟩;have e:=r.length;simp only[Array.length_toList]at e;omega
theorem Inv.tuple(I:Inv X pins σ H s)(h:SqT X.K H a xs):∃its:List Value,Vals xs its/\IsTup s.heap a its.toArray/\xs.length<=sizeLine:=by
 rcases h with h|⟨o,its,n,hk,hc,hs,hz,r⟩
 .obtain⟨z,its,r,p⟩:=h.ok I.hok;exact⟨its,r,p.tup,z⟩
 .refine⟨its.toList,r,⟨o,I.kIn a o hk,hc,n,by simpa using hs⟩,?_⟩;have e:=r.length;simp only[Array.length_toList]at e;omega
theorem Inv.list_inj(I:Inv X pins σ H s)(h:SqL X.K H a xs)(h':SqL X.K H a ys):xs=ys:=by
 obtain⟨its,r,⟨o,n,e,_,_,d⟩,_⟩:=I.list h;obtain⟨its',r',⟨o',n',e',_,_,d'⟩,_⟩:=I.list h';rw[e]at e';cases e';rw[d]at d';injection d' with d1 _
 have:its=its':=by simpa using congrArg Array.toList d1
 subst this;exact r.inj r'
theorem Inv.tuple_inj(I:Inv X pins σ H s)(h:SqT X.K H a xs)(h':SqT X.K H a ys):xs=ys:=by
 obtain⟨its,r,⟨o,e,_,n,d⟩,_⟩:=I.tuple h;obtain⟨its',r',⟨o',e',_,n',d'⟩,_⟩:=I.tuple h';rw[e]at e';cases e';rw[d]at d';injection d' with d1 _
 have:its=its':=by simpa using congrArg Array.toList d1
 subst this;exact r.inj r'
end
noncomputable abbrev Cx.wish(X:Cx)(E:Value->Shared->Prop):Cx:={X with xe:=E}
noncomputable abbrev Cx.nox(X:Cx):Cx:=X.wish λ_ _=>False
theorem Cx.Ok.wish{X:Cx}(ok:X.Ok)(E:Value->Shared->Prop):(X.wish E).Ok :=
 ⟨ok.mod,ok.kind,ok.glob,ok.blt,ok.above,ok.inj,ok.has,ok.cab,ok.hd,ok.frames,ok.stk,ok.exf,ok.bs,ok.bsz,ok.noex,ok.exfs,ok.funs,ok.frf⟩
theorem Cx.Ok.unwish{X:Cx}{E:Value->Shared->Prop}(ok:(X.wish E).Ok):X.Ok :=
 ⟨ok.mod,ok.kind,ok.glob,ok.blt,ok.above,ok.inj,ok.has,ok.cab,ok.hd,ok.frames,ok.stk,ok.exf,ok.bs,ok.bsz,ok.noex,ok.exfs,ok.funs,ok.frf⟩
section
variable {X:Cx}{pins:List (Addr×Obj)}{σ:St}{H:Hp}{s:Shared}{E:Value->Shared->Prop}
theorem Inv.wish(I:Inv X pins σ H s)(E:Value->Shared->Prop):Inv (X.wish E) pins σ H s:=⟨I.ok.wish E,I.os,I.bare,I.base,I.loc,I.cell,I.free,I.freeC,I.pin,I.hok,I.len⟩
theorem Inv.unwish(I:Inv (X.wish E) pins σ H s):Inv X pins σ H s:=⟨I.ok.unwish,I.os,I.bare,I.base,I.loc,I.cell,I.free,I.freeC,I.pin,I.hok,I.len⟩
theorem SP.unwish{D:Ends}{f:Flow}{s':Shared}(h:SP (X.wish E) pins D f s'):SP X pins D f s':=by
 cases f with
 |next=>obtain⟨σ',H',I,q⟩:=h;exact⟨σ',H',I.unwish,q⟩
 |brk=>obtain⟨σ',H',I,q⟩:=h;exact⟨σ',H',I.unwish,q⟩
 |cont=>obtain⟨σ',H',I,q⟩:=h;exact⟨σ',H',I.unwish,q⟩
 |ret u=>obtain⟨v,σ',H',I,r,q⟩:=h;exact⟨v,σ',H',I.unwish,r,q⟩
theorem PSs.nox{st:List Stmt}{t:TS}(h:PSs X.nox st t):PSs X st t:=λpins s σ H D I hw =>
 wpAny_mono (h pins s σ H D (I.wish _) hw) (λ_ _ q=>q.unwish) λ_ _ z=>False.elim z
end
section
variable {X:Cx}{st:Stmt}{rest:List Stmt}{t u:TS}{e:Expr}{te:TE}{pos:Pos}
def a7f:TS:=λD σ H=>D.nx σ H
def b1H(t u:TS):TS:=λD σ H=>t {D with nx:=u D} σ H
theorem a9s:PSs X [] a7f:=λ_ _ σ H _ I h=>wpAny_execs_nil ⟨σ,H,I,h⟩
theorem a7F(h1:PS X st t)(h2:PSs X rest u):PSs X (st::rest) (b1H t u):=by
 intro pins s σ H D I h;refine wpAny_execs_cons (thn (h1 pins s σ H {D with nx:=u D} I h) λf s1 q=>?_);cases f with
 |next =>
  obtain⟨σ',H',I',q⟩:=q;exact h2 pins s1 σ' H' D I' q
 |ret v=>exact q
 |brk=>exact q
 |cont=>exact q
theorem a9r(h1:PS X st t):PSs X [st] t:=by
 intro pins s σ H D I h;refine wpAny_execs_cons (thn (h1 pins s σ H D I h) λf s1 q=>?_);cases f with
 |next=>exact wpAny_execs_nil q
 |ret v=>exact q
 |brk=>exact q
 |cont=>exact q
theorem Inv.quiet{pins:List (Addr×Obj)}{σ:St}{H:Hp}{s:Shared}(I:Inv X pins σ H s):interactive X.env=false:=by simp[interactive,I.ok.kind]
def a5j(te:TE):TS:=λD σ H=>te σ H λ_ H1=>D.nx σ H1
theorem a9u(he:PE X e te)(hs:swapsWith e none pos.line X.env=pure false:=by rfl):PS X (.Expr e pos) (a5j te):=by
 intro pins s σ H D I h;exact wpAny_Expr_any (thn (he pins s σ H _ I h) λv s1 ⟨x,H1,I1,r1,q1⟩=>⟨σ,H1,I1,q1⟩) I.quiet hs
def b1I(te:TE):TS:=λD σ H=>te σ H D.rt
theorem b2a(he:PE X e te):PS X (.Return (some e) pos) (b1I te):=by
 intro pins s σ H D I h;exact wpAny_Return_some (thn (he pins s σ H _ I h) λv s1 ⟨x,H1,I1,r1,q1⟩=>⟨x,σ,H1,I1,r1,q1⟩)
def b5c:TS:=λD _ H=>D.rt .non H
def b1J(c:TT)(t u:TS):TS:=λD σ H=>c σ H λb H1=>if b=true then t D σ H1 else u D σ H1
theorem b4u{c:Expr}{a b:List Stmt}{tc:TT}(hc:PT X c tc)(ha:PSs X a t)(hb:PSs X b u):PS X (.If c a b pos) (b1J tc t u):=by
 intro pins s σ H D I h;refine wpAny_If (thn (hc pins s σ H _ I h) λd s1 ⟨H1,I1,q1⟩=>?_);cases d with
 |true=>exact ha pins s1 σ H1 D I1 q1
 |false=>exact hb pins s1 σ H1 D I1 q1
end
abbrev TG:=V->St->Hp->(St->Hp->Prop)->Prop
abbrev TGs:=List V->St->Hp->(St->Hp->Prop)->Prop
def PG(X:Cx)(target:Expr)(t:TG):Prop :=
 ∀(pins:List (Addr×Obj)) (s:Shared) (σ:St) (H:Hp) (v:V) (u:Value) (Q:St->Hp->Prop),Inv X pins σ H s->RelV v u->t v σ H Q ->
  wpAny (model X.prog X.w) X.A (assign target X.env u) (λ_ s'=>∃σ' H',Inv X pins σ' H' s'/\Q σ' H') X.xe s
def PGs(X:Cx)(ts:List Expr)(t:TGs):Prop :=
 ∀(pins:List (Addr×Obj)) (s:Shared) (σ:St) (H:Hp) (vs:List V) (us:List Value) (Q:St->Hp->Prop),Inv X pins σ H s->Vals vs us->t vs σ H Q ->
  wpAny (model X.prog X.w) X.A (assignInOrder ((assignEach ts X.env).map (·.2)) us) (λ_ s'=>∃σ' H',Inv X pins σ' H' s'/\Q σ' H') X.xe s
abbrev a9d:=V->V->V->Hp->(Hp->Prop)->Prop
def b3E(X:Cx)(t:a9d):Prop :=
 ∀(pins:List (Addr×Obj)) (s:Shared) (σ:St) (H:Hp) (o i v:V) (ov iv u:Value) (Q:Hp->Prop),Inv X pins σ H s->RelV o ov->RelV i iv->RelV v u->t o i v H Q ->
  wpAny (model X.prog X.w) X.A (setItem ov iv u) (λ_ s'=>∃H',Inv X pins σ H' s'/\Q H') X.xe s
abbrev TIp:=V->V->Hp->VK->Prop
def PIp(X:Cx)(op:Operator)(t:TIp):Prop :=
 ∀(pins:List (Addr×Obj)) (s:Shared) (σ:St) (H:Hp) (x y:V) (v u:Value) (Q:VK),Inv X pins σ H s->RelV x v->RelV y u->t x y H Q ->
  wpAny (model X.prog X.w) X.A (inplaceOp op v u) (EP X pins σ Q) X.xe s
section
variable {X:Cx}{pos:Pos}
def A9(i:Nat):TG:=λv σ H Q=>Q (σ.set i (some v)) H
theorem a9O{i:Nat}{x:Str}(hN:X.N.Nodup)(hi:X.N[i]?=some x)(hx:Loc X.env.scope x)(hf:X.fn x=true∨X.env.scope.names.lookup x=some .local:=by first|exact .inl rfl|exact .inr rfl|assumption):PG X (.Name x pos) (A9 i):=by
 intro pins s σ H v u Q I r h;exact wpAny_assign_Name (a3D I hN hi hx r (λs' I'=>⟨_,H,I',h⟩) hf)
def b0z:TGs:=λvs σ H Q=>vs=[]/\Q σ H
def a2v(t:TG)(u:TGs):TGs:=λvs σ H Q=>∃v r,vs=v::r/\t v σ H λσ' H'=>u r σ' H' Q
theorem a9M:PGs X [] b0z:=by
 intro pins s σ H vs us Q I r h;obtain⟨e,h⟩:=h;subst e;cases r;exact assignInOrder_nil ⟨σ,H,I,h⟩
theorem a7P{e:Expr}{es:List Expr}{t:TG}{u:TGs}(h1:PG X e t)(h2:PGs X es u)
  (hs:(assignEach (e::es) X.env).map (·.2)=assign e X.env::(assignEach es X.env).map (·.2):=by rfl):PGs X (e::es) (a2v t u):=by
 intro pins s σ H vs us Q I r h;obtain⟨v,vr,e1,h⟩:=h;subst e1;cases r with
 |cons r rr =>
  rw[hs];refine assignInOrder_cons (thn (h1 pins s σ H _ _ _ I r h) λ_ s1 ⟨σ1,H1,I1,q1⟩=>?_);exact h2 pins s1 σ1 H1 _ _ Q I1 rr q1
def a8M(K:PySem.W.Frag)(n:Nat)(t:TGs):TG:=λv σ H Q=>∃a xs,v=.ref a/\SqT K H a xs/\xs.length=n/\t xs σ H Q
theorem b2h{es:List Expr}{k:Nat}{t:TGs}{n:Nat}(hc:X.calm=true)(h:PGs X es t)
  (hn:(assignEach es X.env).length=n:=by rfl) (hst:(assignEach es X.env).findIdx? (·.1)=none:=by rfl):PG X (.Tuple es k pos) (a8M X.K n t):=by
 intro pins s σ H v u Q I r hw;obtain⟨a,xs,e1,hq,hl,hw⟩:=hw;subst e1;cases r;obtain⟨its,rv,ht,hz⟩:=I.tuple hq;refine assign_Tuple_tuple (I.ok.hd hc) ht (by simp[hn,<-hl,rv.length]) hst λh' hx=>?_;have I1:Inv X pins σ H {s with heap:=h'}:=I.kept (t':=s.toks) λb o e=>hx b o (Nat.ne_of_lt (Heap.lt_size e)) e;exact h pins _ σ H xs _ Q I1 (by simpa using rv) hw
def b4K(to ti:TE)(t:a9d):TG:=λv σ H Q=>to σ H λo H1=>ti σ H1 λi H2=>t o i v H2 λH3=>Q σ H3
theorem b2i{o i:Expr}{to ti:TE}{t:a9d}(ho:PE X o to)(hi:PE X i ti)(hs:b3E X t)
  (ha:∀v,assign (.Subscript o i pos) X.env v=(do
   let ov <-holding [v] (eval o X.env)
   let iv <-holding [v,ov] (eval i X.env)
   standAt pos
   holding [v,ov,iv] (setItem ov iv v)
   release [v,ov,iv] []):=by intro _;rfl):PG X (.Subscript o i pos) (b4K to ti t):=by
 intro pins s σ H v u Q I r h;rw[ha];refine wpAny_bind (wpAny_holding (thn (ho pins s σ H _ I h) λov s1 ⟨x,H1,I1,r1,q1⟩=>?_));refine wpAny_bind (wpAny_holding (thn (hi pins s1 σ H1 _ I1 q1) λiv s2 ⟨y,H2,I2,r2,q2⟩=>?_));refine wpAny_bind (wpAny_standAt (wpAny_bind (wpAny_holding (thn (hs pins s2 σ H2 x y v ov iv u _ I2 r1 r2 r q2) λ_ s3 ⟨H3,I3,q3⟩=>?_))));exact wpAny_release ⟨σ,H3,I3,q3⟩
def a5V(te:TE)(g:TG):TS:=λD σ H=>te σ H λx H1=>g x σ H1 D.nx
theorem b2d{tg e:Expr}{te:TE}{g:TG}(he:PE X e te)(hg:PG X tg g)(hs:swapsWithSole [tg] e pos.line X.env=pure false:=by rfl)(hw:swappedStores [tg] e X.env=pure none:=by rfl)
  (h1:(assignEach [tg] X.env).map (·.2)=[assign tg X.env]:=by rfl):PS X (.Assign [tg] e pos) (a5V te g):=by
 intro pins s σ H D I h;refine wpAny_Assign_stores (thn (he pins s σ H _ I h) λv s1 ⟨x,H1,I1,r1,q1⟩=>?_) hs hw;rw[h1];exact thn (hg pins s1 σ H1 x v _ I1 r1 q1) λ_ s2 q=>q
theorem b1Z{i:Nat}{x:Str}{e:Expr}{te:TE}{pos':Pos}(hN:X.N.Nodup)(hi:X.N[i]?=some x)(hx:Loc X.env.scope x)(he:PE X e te)(hs:swapsWith e (some (.Name x pos')) pos.line X.env=pure false:=by rfl)(hf:X.fn x=true∨X.env.scope.names.lookup x=some .local:=by first|exact .inl rfl|exact .inr rfl|assumption) :
  PS X (.Assign [.Name x pos'] e pos) (a5V te (A9 i)):=by
 intro pins s σ H D I h;refine wpAny_Assign_Name (thn (he pins s σ H _ I h) λv s1 ⟨y,H1,I1,r1,q1⟩=>?_) hs;exact a3D I1 hN hi hx r1 (λs2 I2=>⟨_,H1,I2,q1⟩) hf
def b0O(to ti te:TE)(tget:V->V->Hp->VK->Prop)(tip:TIp)(tset:a9d):TS:=λD σ H=>to σ H λo H1=>ti σ H1 λi H2=>tget o i H2 λx H3=>te σ H3 λy H4=>tip x y H4 λz H5=>tset o i z H5 λH6=>D.nx σ H6
def b3F(X:Cx)(t:V->V->Hp->VK->Prop):Prop :=
 ∀(pins:List (Addr×Obj)) (s:Shared) (σ:St) (H:Hp) (o i:V) (ov iv:Value) (Q:VK),Inv X pins σ H s->RelV o ov->RelV i iv->t o i H Q ->
  wpAny (model X.prog X.w) X.A (getItem ov iv) (EP X pins σ Q) X.xe s
theorem a9w{o i e:Expr}{to ti te:TE}{tget:V->V->Hp->VK->Prop}{tip:TIp}{tset:a9d}{op:Operator}{tpos:Pos}(ho:PE X o to)(hi:PE X i ti)(hg:b3F X tget)(he:PE X e te)(hp:PIp X op tip)(hs:b3E X tset)
  (ha:∀ov iv new,augStore i ov iv new=(do holding [new,ov,iv] (setItem ov iv new);release [new,ov,iv] [];pure .next):=by intros;rfl):PS X (.AugAssign (.Subscript o i tpos) op e pos) (b0O to ti te tget tip tset):=by
 intro pins s σ H D I h;refine wpAny_AugAssign_SubscriptAny (thn (ho pins s σ H _ I h) λov s1 ⟨x1,H1,I1,r1,q1⟩=>?_) ha;refine thn (hi pins s1 σ H1 _ I1 q1) λiv s2 ⟨x2,H2,I2,r2,q2⟩=>?_;refine thn (hg pins s2 σ H2 x1 x2 ov iv _ I2 r1 r2 q2) λold s3 ⟨x3,H3,I3,r3,q3⟩=>?_;refine thn (he pins s3 σ H3 _ I3 q3) λv s4 ⟨x4,H4,I4,r4,q4⟩=>?_;refine thn (hp pins s4 σ H4 x3 x4 old v _ I4 r3 r4 q4) λnew s5 ⟨x5,H5,I5,r5,q5⟩=>?_;exact thn (hs pins s5 σ H5 x1 x2 x5 ov iv new _ I5 r1 r2 r5 q5) λ_ s6 ⟨H6,I6,q6⟩=>⟨σ,H6,I6,q6⟩
def ipI(f:Int->Int->Int):TIp:=λx y H Q=>∃i j,x=.int i/\y=.int j/\Q (.int (f i j)) H
theorem b3j:PIp X .Add (ipI λi j=>i+j):=by
 intro pins s σ H x y v u Q I r1 r2 h;obtain⟨i,j,e1,e2,q⟩:=h;subst e1;subst e2;obtain⟨t,rfl⟩:=r1;obtain⟨t',rfl⟩:=r2;exact iadd_int ⟨.int _,H,I.tok _,⟨_,rfl⟩,q⟩
def a7e(c:TT)(tb:TS):TS:=λD σ H=>∃W:Nat->St->Hp->Prop,(∃m,W m σ H)/\∀m σ H,W m σ H ->
 c σ H λb H1=>if b=true then ∃N:St->Hp->Prop,(∀σ' H',N σ' H'->∃m',m'<m/\W m' σ' H')/\tb {D with nx:=N,ct:=N,bk:=D.nx} σ H1 else D.nx σ H1
theorem a7G{c:Expr}{body:List Stmt}{tc:TT}{tb:TS}(hp:PassesOwn (model X.prog X.w) X.A X.env X.xe)(hc:PT X c tc)(hb:PSs X body tb):PS X (.While c body [] pos) (a7e tc tb):=by
 intro pins s σ H D I h;obtain⟨W,⟨m0,w0⟩,turn⟩:=h;refine wpAny_While (codeAny_whileLoop (λn s'=>∃σ' H',Inv X pins σ' H' s'/\W n σ' H') ?_ m0 ⟨σ,H,I,w0⟩);rintro n s1 ⟨σ1,H1,I1,w1⟩;refine wpAny_passesOwn hp (thn (hc pins s1 σ1 H1 _ I1 (turn n σ1 H1 w1)) λb s2 ⟨H2,I2,q2⟩=>?_);cases b with
 |true =>
  obtain⟨N,hN,q2⟩:=q2;rw[if_pos rfl];refine wpAny_passesOwn hp (thn (hb pins s2 σ1 H2 _ I2 q2) λf s3 q3=>?_);cases f with
  |next =>
   obtain⟨σ3,H3,I3,n3⟩:=q3;obtain⟨m',hm,w3⟩:=hN σ3 H3 n3;exact⟨m',hm,σ3,H3,I3,w3⟩
  |cont =>
   obtain⟨σ3,H3,I3,n3⟩:=q3;obtain⟨m',hm,w3⟩:=hN σ3 H3 n3;exact⟨m',hm,σ3,H3,I3,w3⟩
  |brk=>exact q3
  |ret v=>exact q3
 |false =>
  rw[if_neg Bool.false_ne_true];exact wpAny_execs_nil ⟨σ1,H2,I2,q2⟩
end
structure It where
 go:Nat->Hp->Prop
 yld:Nat->Hp->V->Hp->Prop
 stop:Nat->Hp->Prop
def a0x(X:Cx)(pins:List (Addr×Obj))(H:Hp)(b:Addr):Prop :=
 H b=none/\b≠X.env.locals/\b∉X.fs/\(b∈X.ex∨X.s₀.heap.objs.size<=b)/\(∀x c,X.env.cells.lookup x=some c->c≠b)/\∀p∈X.pn++pins,p.1≠b
theorem Inv.fpOk{X:Cx}{pins:List (Addr×Obj)}{σ:St}{H H':Hp}{s:Shared}{b:Addr}(I:Inv X pins σ H s)(hb:s.heap.objs.size<=b)(hn:H' b=none):a0x X pins H' b:=by
 refine⟨hn,Nat.ne_of_gt (Nat.lt_of_lt_of_le I.lt hb),I.nofs hb,.inr (Nat.le_trans I.sz hb),λx c e z=>?_,λp hp z=>?_⟩
 .obtain⟨v,q⟩:=I.cell x c e;exact absurd (Nat.lt_of_lt_of_le q.lt (by rw[z];exact hb)) (Nat.lt_irrefl _)
 .exact absurd (Nat.lt_of_lt_of_le (Heap.lt_size (I.pin p hp).1) (by rw[z];exact hb)) (Nat.lt_irrefl _)
structure Turn(P:Program)(w:World)(K:PySem.W.Frag)(tg:Expr)(J:It)(fp:List Addr)(it:Addr)(tn:Nat->Heap->Prop):Prop where
 mem:it∈fp
 obj:∀i h,tn i h->∀b∈fp,∃o,h.get? b=some o/\∀v,o.data≠.cell v
 keep:∀i h h',tn i h->(∀b∈fp,∀o,h.get? b=some o->h'.get? b=some o)->tn i h'
 item:∀(X:Cx),X.prog=P->X.w=w->X.K=K->X.calm=true->∀(i:Nat) (pins:List (Addr×Obj)) (s:Shared) (σ:St) (H:Hp) (E:Value->Shared->Prop),Inv X pins σ H s->(∀b∈fp,a0x X pins H b)->tn i s.heap->J.go i H ->
  wpAny (model P w) X.A (pyNext (.ref it)) (λr s1=>∃u,r=some u /\
   wpAny (model P w) X.A (letOwnedTupleGo tg (.ref it) u) (λ_ s2=>∃x H',Inv X pins σ H' s2/\RelV x u/\J.yld i H x H'/\tn (i+1) s2.heap/\∀b∈fp,H' b=none) E s1) E s
 done:∀(X:Cx),X.prog=P->X.w=w->X.K=K->X.calm=true->∀(i:Nat) (pins:List (Addr×Obj)) (s:Shared) (σ:St) (H:Hp) (E:Value->Shared->Prop),Inv X pins σ H s->(∀b∈fp,a0x X pins H b)->tn i s.heap->J.stop i H ->
  wpAny (model P w) X.A (pyNext (.ref it)) (λr s1=>r=none/\Inv X pins σ H s1) E s
 self:∀(A:Around) (i:Nat) (s:Shared) (Q:Value->Shared->Prop) (E:Value->Shared->Prop),tn i s.heap->Q (.ref it) s->wpAny (model P w) A (pyIter (.ref it)) Q E s
abbrev TI:=St->Hp->(It->Hp->Prop)->Prop
def PIE(X:Cx)(pins:List (Addr×Obj))(σ:St)(tg:Expr)(R:It->Hp->Prop)(itv:Value)(s2:Shared):Prop :=
 ∃(it:Addr) (fp:List Addr) (tn:Nat->Heap->Prop) (J:It) (H':Hp),itv=.ref it/\Inv X pins σ H' s2/\Turn X.prog X.w X.K tg J fp it tn/\tn 0 s2.heap/\(∀b∈fp,a0x X pins H' b)/\R J H'
def PI(X:Cx)(tg iter:Expr)(wi:TI):Prop :=
 ∀(pins:List (Addr×Obj)) (s:Shared) (σ:St) (H:Hp) (R:It->Hp->Prop),Inv X pins σ H s->wi σ H R ->
  wpAny (model X.prog X.w) X.A (eval iter X.env) (λv s1=>wpAny (model X.prog X.w) X.A (pyIter v) (PIE X pins σ tg R) X.xe s1) X.xe s
theorem a5G{M:Model}{A:Around}{E:Value->Shared->Prop}{s:Shared}{tg:Expr}{it:Addr}{u:Value}{o:Obj}{n:String}{vs:Array Value}{Q:Unit->Shared->Prop}(ho:s.heap.get? it=some o)(hc:o.cls=.type n)(hd:o.data=.fields vs)
  (hn:["enumerate","zip","dict_itemiterator","dict_reverseitemiterator","odict_iterator","itertools.zip_longest","itertools.pairwise"].contains n=false) (hQ:Q () s):wpAny M A (letOwnedTupleGo tg (.ref it) u) Q E s:=by
 unfold letOwnedTupleGo;cases tg<;>first
  |exact wpAny_pure hQ
  | (cases u <;> first
    |exact wpAny_pure hQ
    | (refine wpAny_bind (wpAny_load ho ?_)
       rw[hc,hd];show wpAny M A (if (["enumerate","zip","dict_itemiterator","dict_reverseitemiterator","odict_iterator","itertools.zip_longest","itertools.pairwise"].contains n && vs[0]? == some (rawInt _))=true then _ else _) Q E s;rw[if_neg (by intro h;rw[hn,Bool.false_and]at h;cases h)];exact wpAny_pure hQ))
noncomputable def Itl(K:PySem.W.Frag)(a:Addr):It :=
 ⟨λi H=>∃xs x,SqL K H a xs/\xs[i]?=some x,λi H x H'=>H'=H/\∀xs,SqL K H a xs->xs[i]?=some x,λi H=>∃xs,SqL K H a xs/\xs.length<=i⟩
noncomputable def Itt(K:PySem.W.Frag)(a:Addr):It :=
 ⟨λi H=>∃xs x,SqT K H a xs/\xs[i]?=some x,λi H x H'=>H'=H/\∀xs,SqT K H a xs->xs[i]?=some x,λi H=>∃xs,SqT K H a xs/\xs.length<=i⟩
noncomputable def Itr(lo:Int)(n:Nat):It:=⟨λi _=>i<n,λi H x H'=>H'=H/\x=.int (lo+i),λi _=>n<=i⟩
theorem a5S{P:Program}{w:World}{K:PySem.W.Frag}{tg:Expr}(a it:Addr):Turn P w K tg (Itl K a) [it] it (λi h=>h.IsListIter it a i) where
 mem:=by simp
 obj:=λi h st b hb=>by
  have e:b=it:=by simpa using hb
  subst e;obtain⟨o,e,c,d⟩:=st;exact⟨o,e,λv z=>by rw[d]at z;cases z⟩
 keep:=λi h h' st k=>st.at λo e=>k it (by simp) o e
 item:=by
  intro X hP hw hK hc i pins s σ H E I hf st hg;subst hP hw hK;obtain⟨xs,x,hq,hx⟩:=hg;obtain⟨its,rv,p,hz⟩:=I.list hq;obtain⟨u,hu,ru⟩:=rv.get hx;obtain⟨f0,f1,f2,f3,f4,f5⟩:=hf it (by simp);refine wpAny_pyNext_list_item st p.isList (x:=u) (by simpa using hu) λh' st' sb=>?_;have I1:Inv X pins σ H {s with heap:=h'}:=I.turned (t':=s.toks) (λb o hb e=>(sb.2 b hb).trans e) f0 f1 f3 f4 f5;obtain⟨o,e,c,d⟩:=id st';exact⟨u,rfl,a5G (s:={s with heap:=h'}) e c d (by decide) ⟨x,H,I1,ru,⟨rfl,λys hy=>by rw[I.list_inj hy hq];exact hx⟩,st',λb hb=>(hf b hb).1⟩⟩
 done:=by
  intro X hP hw hK hc i pins s σ H E I hf st hg;subst hP hw hK;obtain⟨xs,hq,hx⟩:=hg;obtain⟨its,rv,p,hz⟩:=I.list hq;obtain⟨f0,f1,f2,f3,f4,f5⟩:=hf it (by simp);have hl:=rv.length;exact wpAny_pyNext_list_end (I.ok.hd hc) st p.isList (by simp;omega) λh' eb=>⟨rfl,I.turned (t':=s.toks) (λb o hb e=>eb b o hb e) f0 f1 f3 f4 f5⟩
 self:=λ_ _ _ _ _ st h=>wpAny_pyIter_listiter st h
theorem a4x{P:Program}{w:World}{K:PySem.W.Frag}{tg:Expr}(a it:Addr):Turn P w K tg (Itt K a) [it] it (λi h=>h.IsTupleIter it a i) where
 mem:=by simp
 obj:=λi h st b hb=>by
  have e:b=it:=by simpa using hb
  subst e;obtain⟨o,e,c,d⟩:=st;exact⟨o,e,λv z=>by rw[d]at z;cases z⟩
 keep:=λi h h' st k=>st.at λo e=>k it (by simp) o e
 item:=by
  intro X hP hw hK hc i pins s σ H E I hf st hg;subst hP hw hK;obtain⟨xs,x,hq,hx⟩:=hg;obtain⟨its,rv,p,hz⟩:=I.tuple hq;obtain⟨u,hu,ru⟩:=rv.get hx;obtain⟨f0,f1,f2,f3,f4,f5⟩:=hf it (by simp);refine wpAny_pyNext_tuple_item st (show s.heap.IsTuple a its.toArray from p) (x:=u) (by simpa using hu) λh' st' sb=>?_;have I1:Inv X pins σ H {s with heap:=h'}:=I.turned (t':=s.toks) (λb o hb e=>(sb.2 b hb).trans e) f0 f1 f3 f4 f5;obtain⟨o,e,c,d⟩:=id st';exact⟨u,rfl,a5G (s:={s with heap:=h'}) e c d (by decide) ⟨x,H,I1,ru,⟨rfl,λys hy=>by rw[I.tuple_inj hy hq];exact hx⟩,st',λb hb=>(hf b hb).1⟩⟩
 done:=by
  intro X hP hw hK hc i pins s σ H E I hf st hg;subst hP hw hK;obtain⟨xs,hq,hx⟩:=hg;obtain⟨its,rv,p,hz⟩:=I.tuple hq;obtain⟨f0,f1,f2,f3,f4,f5⟩:=hf it (by simp);have hl:=rv.length;exact wpAny_pyNext_tuple_end (I.ok.hd hc) st (show s.heap.IsTuple a its.toArray from p) (by simp;omega) λh' eb=>⟨rfl,I.turned (t':=s.toks) (λb o hb e=>eb b o hb e) f0 f1 f3 f4 f5⟩
 self:=λ_ _ _ _ _ st h=>wpAny_pyIter_tupleiter st h
theorem a4y{P:Program}{w:World}{K:PySem.W.Frag}{tg:Expr}(it:Addr)(lo:Int)(n:Nat):Turn P w K tg (Itr lo n) [it] it (λi h=>IsRangeIter h it (lo+(i:Nat)*1) ((n:Int)-(i:Nat)) 1) where
 mem:=by simp
 obj:=λi h st b hb=>by
  have e:b=it:=by simpa using hb
  subst e;exact⟨_,st,λv z=>by
   have z':Data.fields _=Data.cell v:=z;cases z'⟩
 keep:=λi h h' st k=>k it (by simp) _ st
 item:=by
  intro X hP hw hK hc i pins s σ H E I hf st hg;subst hP hw hK;obtain⟨f0,f1,f2,f3,f4,f5⟩:=hf it (by simp);have W:=Walks.range (prog:=X.prog) (w:=X.w) (I.ok.hd hc) it lo 1 n;refine W.item i s _ _ hg st λv h' tk hv st' kk=>?_;obtain⟨t,rfl⟩:=hv;have I1:Inv X pins σ H {s with heap:=h',toks:=tk}:=I.turned (λb o hb e=>kk b o (by simpa using hb) e) f0 f1 f3 f4 f5;refine⟨_,rfl,a5G (s:={s with heap:=h',toks:=tk}) (n:="range_iterator") st' rfl rfl (by decide) ⟨.int (lo+i),H,I1,⟨t,?_⟩,⟨rfl,rfl⟩,st',λb hb=>(hf b hb).1⟩⟩;rw[Int.mul_one]
 done:=by
  intro X hP hw hK hc i pins s σ H E I hf st hg;subst hP hw hK;obtain⟨f0,f1,f2,f3,f4,f5⟩:=hf it (by simp);exact wpAny_pyNext_range_end (I.ok.hd hc) st (by have:n<=i:=hg;omega) λh' eb=>⟨rfl,I.turned (t':=s.toks) (λb o hb e=>eb b o hb e) f0 f1 f3 f4 f5⟩
 self:=λ_ _ _ _ _ st h=>wpAny_pyIter_rangeiter st h
section
variable {X:Cx}{tg:Expr}
def a8I(K:PySem.W.Frag)(tl:TE):TI:=λσ H R=>tl σ H λx H1=>∃a,x=.ref a/\(∃xs,SqL K H1 a xs)/\R (Itl K a) H1
def b3n(K:PySem.W.Frag)(tl:TE):TI:=λσ H R=>tl σ H λx H1=>∃a,x=.ref a/\(∃xs,SqT K H1 a xs)/\R (Itt K a) H1
theorem a9L{l:Expr}{tl:TE}(hl:PE X l tl):PI X tg l (a8I X.K tl):=by
 intro pins s σ H R I h;refine thn (hl pins s σ H _ I h) λv s1 ⟨x,H1,I1,r1,q1⟩=>?_;obtain⟨a,e,⟨xs,hq⟩,q⟩:=q1;subst e;cases r1;obtain⟨its,rv,p,hz⟩:=I1.list hq;refine wpAny_pyIter_list p.isList ?_;refine⟨s1.heap.objs.size,[s1.heap.objs.size],_,_,H1,rfl,I1.kept (t':=s1.toks) λb o e=>Heap.get?_push_of_some _ e,a5S a _,⟨_,Heap.get?_push_size _ rfl,rfl,rfl⟩,λb hb=>?_,q⟩;have e:b=s1.heap.objs.size:=by simpa using hb
 subst e;exact I1.fpOk (Nat.le_refl _) (I1.hok.fresh (Nat.le_refl _))
theorem b2g{l:Expr}{tl:TE}(hl:PE X l tl):PI X tg l (b3n X.K tl):=by
 intro pins s σ H R I h;refine thn (hl pins s σ H _ I h) λv s1 ⟨x,H1,I1,r1,q1⟩=>?_;obtain⟨a,e,⟨xs,hq⟩,q⟩:=q1;subst e;cases r1;obtain⟨its,rv,p,hz⟩:=I1.tuple hq;refine wpAny_pyIter_tuple (show s1.heap.IsTuple a its.toArray from p) ?_;refine⟨s1.heap.objs.size,[s1.heap.objs.size],_,_,H1,rfl,I1.kept (t':=s1.toks) λb o e=>Heap.get?_push_of_some _ e,a4x a _,⟨_,Heap.get?_push_size _ rfl,rfl,rfl⟩,λb hb=>?_,q⟩;have e:b=s1.heap.objs.size:=by simpa using hb
 subst e;exact I1.fpOk (Nat.le_refl _) (I1.hok.fresh (Nat.le_refl _))
theorem a7s{pins:List (Addr×Obj)}{σ:St}{H:Hp}{s:Shared}{R:It->Hp->Prop}{E:Value->Shared->Prop}{lo hi:Int}{t u v:Tok}{tk:Nat}(I:Inv X pins σ H s)(h1 : -(2 ^ 62)<=lo)(h2:lo<2 ^ 62)(h3 : -(2 ^ 62)<=hi)(h4:hi<2 ^ 62)
  (q:R (Itr lo (hi-lo).toNat) H):wpAny (model X.prog X.w) X.A (pyIter (.ref s.heap.objs.size)) (PIE X pins σ tg R) E {s with heap:=s.heap.push {cls:=.type "range",data:=.fields #[.int lo t,.int hi u,.int 1 v]},toks:=tk}:=by
 refine wpAny_pyIter_range (IsRange.new ..) (small_one h1 h2 h3 h4) ?_;have I1:Inv X pins σ H {s with heap:=s.heap.push {cls:=.type "range",data:=.fields #[.int lo t,.int hi u,.int 1 v]},toks:=tk}:=I.kept λb o e=>Heap.get?_push_of_some _ e;refine⟨(s.heap.push {cls:=.type "range",data:=.fields #[.int lo t,.int hi u,.int 1 v]}).objs.size,[(s.heap.push {cls:=.type "range",data:=.fields #[.int lo t,.int hi u,.int 1 v]}).objs.size],_,_,H,rfl,
  I1.kept (t':=tk) λb o e=>Heap.get?_push_of_some _ e,a4y _ lo (hi-lo).toNat,?_,λb hb=>?_,q⟩
 .have e1:lo+((0:Nat):Int)*1=lo:=by simp
  have e2:(((hi-lo).toNat:Nat):Int)-((0:Nat):Int)=Builtin.Range.rangeSize lo hi 1:=by rw[rangeSize_one];split<;>omega
  show IsRangeIter _ _ (lo+((0:Nat):Int)*1) ((((hi-lo).toNat:Nat):Int)-((0:Nat):Int)) 1;rw[e1,e2];exact Heap.get?_push_size _ rfl
 .have e:b=(s.heap.push {cls:=.type "range",data:=.fields #[.int lo t,.int hi u,.int 1 v]}).objs.size:=by simpa using hb
  subst e;exact I1.fpOk (Nat.le_refl _) (I1.hok.fresh (Nat.le_refl _))
def b1w(ta:TA):TI:=λσ H R=>ta σ H λvs H1=>∃j:Int,vs=[.int j] /\ -(2 ^ 62)<=j/\j<2 ^ 62/\R (Itr 0 j.toNat) H1
theorem a6e{a:Expr}{ta:TA}{p pos:Pos}(hg:Gl X "range")(hm:X.mg "range"=none)(ha:PA X [a] ta)(hs:starEach [a] X.env=[(false,eval a X.env)]:=by rfl):PI X tg (.Call (.Name "range" p) [a] [] pos) (b1w ta):=by
 intro pins s σ H R I h;refine Call_ (a0q I hg hm boot_range (PyProof.Rows.callWith_type1 (thn (ha pos pins s σ H _ I h) λus s1 ⟨vs,H1,I1,r1,q1⟩=>?_) hs rfl));obtain⟨j,e,q1,q2,q⟩:=q1;subst e;cases r1 with
 |cons r rr =>
  cases rr;obtain⟨t,rfl⟩:=r;exact call_range_1 (a7s I1 (by omega) (by omega) q1 q2 (by simpa using q))
def b3S(wi:TI)(g:TG)(tb:TS):TS:=λD σ H=>wi σ H λJ H1=>∃W:Nat->Nat->St->Hp->Prop,(∃m,W 0 m σ H1)/\∀i m σ H,W i m σ H ->
 (J.stop i H/\D.nx σ H)∨(J.go i H/\∃N:St->Hp->Prop,(∀σ' H',N σ' H'->∃m',m'<m/\W (i+1) m' σ' H')/\∀x H',J.yld i H x H'->g x σ H' λσ2 H2=>tb {D with nx:=N,ct:=N,bk:=D.nx} σ2 H2)
noncomputable def a1k(fp:List Addr)(h:Heap):List (Addr×Obj):=fp.filterMap λb=>(h.get? b).map λo=>(b,o)
theorem S9{fp:List Addr}{h:Heap}{b:Addr}{o:Obj}(hb:b∈fp)(e:h.get? b=some o):(b,o)∈a1k fp h:=List.mem_filterMap.mpr ⟨b,hb,by rw[e];rfl⟩
theorem a6i{fp:List Addr}{h:Heap}{p:Addr×Obj}(hp:p∈a1k fp h):p.1∈fp/\h.get? p.1=some p.2:=by
 obtain⟨b,hb,e⟩:=List.mem_filterMap.mp hp;cases q:h.get? b with
 |none=>rw[q]at e;cases e
 |some o =>
  rw[q]at e;have e':(b,o)=p:=Option.some.inj e;subst e';exact⟨hb,q⟩
theorem Inv.pinned{pins:List (Addr×Obj)}{σ:St}{H:Hp}{s:Shared}{fp:List Addr}(I:Inv X pins σ H s)(hf:∀b∈fp,a0x X pins H b)(ho:∀b∈fp,∃o,s.heap.get? b=some o/\∀v,o.data≠.cell v):Inv X (pins++a1k fp s.heap) σ H s :=
 I.pins_of λp hp=>(List.mem_append.mp hp).elim (λz=>I.pin p (List.mem_append_right _ z)) λz=>by
  obtain⟨hb,e⟩:=a6i z;obtain⟨f0,f1,f2,_⟩:=hf p.1 hb;obtain⟨o,e',d⟩:=ho p.1 hb;rw[e]at e';cases e';exact⟨e,f0,f1,f2,d⟩
theorem Inv.unpinned{pins pl:List (Addr×Obj)}{σ:St}{H:Hp}{s:Shared}(I:Inv X (pins++pl) σ H s):Inv X pins σ H s:=I.pins_of λp hp=>I.pin p (List.mem_append_right _ (List.mem_append_left _ hp))
theorem b2b{iter:Expr}{body:List Stmt}{wi:TI}{g:TG}{tb:TS}{pos:Pos}(hp:PassesOwn (model X.prog X.w) X.A X.env X.xe)(hc:X.calm=true)(hi:PI X tg iter wi)(hg:PG X tg g)(hb:PSs X body tb)
  (hs:∀x,foldedSetIterable iter X.env x=pure x:=by intro _;rfl):PS X (.For tg iter body [] pos) (b3S wi g tb):=by
 intro pins s σ H D I h;refine wpAny_For (thn (hi pins s σ H _ I h) λv s1 h1=>thn h1 λitv s2 h2=>?_) hs;obtain⟨it,fp,tn,J,H2,e,I2,T,st2,f2,W,⟨m0,w0⟩,turn⟩:=h2;subst e;have stat:∀{H':Hp},(∀b∈fp,H' b=none)->∀b∈fp,a0x X pins H' b:=λhn b hb=>⟨hn b hb,(f2 b hb).2⟩;refine codeAny_forLoop_any (λn s'=>∃i σ' H',Inv X pins σ' H' s'/\tn i s'.heap/\(∀b∈fp,H' b=none)/\W i n σ' H') ?_ m0 ⟨0,σ,H2,I2,st2,λb hb=>(f2 b hb).1,w0⟩;rintro n s3 ⟨i,σ3,H3,I3,st3,fr3,w3⟩;rcases turn i n σ3 H3 w3 with⟨stop,qn⟩|⟨go,N,hN,step⟩
 .refine wpAny_passesOwn hp (thn (T.done X rfl rfl rfl hc i pins s3 σ3 H3 X.xe I3 (stat fr3) st3 stop) λr s4 ⟨hr,I4⟩=>?_);subst hr;exact wpAny_execs_nil ⟨σ3,H3,I4,qn⟩
 .refine wpAny_passesOwn hp (thn (T.item X rfl rfl rfl hc i pins s3 σ3 H3 X.xe I3 (stat fr3) st3 go) λr s4 ⟨u,hr,h4⟩=>?_);subst hr;refine wpAny_passesOwn hp (thn h4 λ_ s5 ⟨x,H5,I5,r5,y5,st5,fr5⟩=>?_);have I5':=I5.pinned (stat fr5) (T.obj _ _ st5);refine wpAny_passesOwn hp (thn (hg _ s5 σ3 H5 x u _ I5' r5 (step x H5 y5)) λ_ s6 ⟨σ6,H6,I6,q6⟩=>?_);refine wpAny_passesOwn hp (thn (hb _ s6 σ6 H6 _ I6 q6) λf s7 q7=>?_);have again:∀{σ7:St}{H7:Hp},Inv X (pins++a1k fp s5.heap) σ7 H7 s7->N σ7 H7->∃m,m<n/\∃i σ' H',Inv X pins σ' H' s7/\tn i s7.heap/\(∀b∈fp,H' b=none)/\W i m σ' H':=λ{σ7 H7} I7 n7=>by
   obtain⟨m',hm,w7⟩:=hN σ7 H7 n7;refine⟨m',hm,i+1,σ7,H7,I7.unpinned,T.keep _ _ _ st5 λb hb o e=>(I7.pin (b,o) (List.mem_append_right _ (List.mem_append_right _ (S9 hb e)))).1,λb hb=>?_,w7⟩;obtain⟨o,e,d⟩:=T.obj _ _ st5 b hb;exact(I7.pin (b,o) (List.mem_append_right _ (List.mem_append_right _ (S9 hb e)))).2.1
  cases f with
  |next=>obtain⟨σ7,H7,I7,n7⟩:=q7;exact again I7 n7
  |cont=>obtain⟨σ7,H7,I7,n7⟩:=q7;exact again I7 n7
  |brk=>obtain⟨σ7,H7,I7,q7⟩:=q7;exact⟨σ7,H7,I7.unpinned,q7⟩
  |ret v=>obtain⟨x7,σ7,H7,I7,r7,q7⟩:=q7;exact⟨x7,σ7,H7,I7.unpinned,r7,q7⟩
end
theorem a1D{K:PySem.W.Frag}{a:Addr}{xs:List V}{g:TG}{tb:TS}{D:Ends}{σ:St}{H:Hp}(Pv:Nat->St->Hp->Prop)(h0:Pv 0 σ H)(hl:∀i σ H,i<=xs.length->Pv i σ H->SqL K H a xs)
  (hs:∀i x σ H,xs[i]?=some x->Pv i σ H->g x σ H λσ2 H2=>tb {D with nx:=Pv (i+1),ct:=Pv (i+1),bk:=D.nx} σ2 H2) (hd:∀σ H,Pv xs.length σ H->D.nx σ H) :
  ∃W:Nat->Nat->St->Hp->Prop,(∃m,W 0 m σ H)/\∀i m σ H,W i m σ H ->
   ((Itl K a).stop i H/\D.nx σ H)∨((Itl K a).go i H/\∃N:St->Hp->Prop,(∀σ' H',N σ' H'->∃m',m'<m/\W (i+1) m' σ' H')/\∀x H',(Itl K a).yld i H x H'->g x σ H' λσ2 H2=>tb {D with nx:=N,ct:=N,bk:=D.nx} σ2 H2):=by
 refine⟨λi m σ H=>m=xs.length-i/\i<=xs.length/\Pv i σ H,⟨xs.length,by simp,Nat.zero_le _,h0⟩,?_⟩;rintro i m σ H ⟨rfl,hi,p⟩;have q:=hl i σ H hi p;by_cases hlt:i<xs.length
 .refine .inr ⟨⟨xs,xs[i],q,by simp[hlt]⟩,Pv (i+1),λσ' H' p'=>⟨xs.length-(i+1),by omega,rfl,hlt,p'⟩,λx H' y=>?_⟩;obtain⟨e,y⟩:=y;subst e;exact hs i x σ _ (y xs q) p
 .have e:i=xs.length:=by omega
  subst e;exact .inl ⟨⟨xs,q,Nat.le_refl _⟩,hd σ H p⟩
theorem W2{lo:Int}{n:Nat}{g:TG}{tb:TS}{D:Ends}{σ:St}{H:Hp}(Pv:Nat->St->Hp->Prop)(h0:Pv 0 σ H)
  (hs:∀i σ H,i<n->Pv i σ H->g (.int (lo+i)) σ H λσ2 H2=>tb {D with nx:=Pv (i+1),ct:=Pv (i+1),bk:=D.nx} σ2 H2) (hd:∀σ H,Pv n σ H->D.nx σ H) :
  ∃W:Nat->Nat->St->Hp->Prop,(∃m,W 0 m σ H)/\∀i m σ H,W i m σ H ->
   ((Itr lo n).stop i H/\D.nx σ H)∨((Itr lo n).go i H/\∃N:St->Hp->Prop,(∀σ' H',N σ' H'->∃m',m'<m/\W (i+1) m' σ' H')/\∀x H',(Itr lo n).yld i H x H'->g x σ H' λσ2 H2=>tb {D with nx:=N,ct:=N,bk:=D.nx} σ2 H2):=by
 refine⟨λi m σ H=>m=n-i/\i<=n/\Pv i σ H,⟨n,by simp,Nat.zero_le _,h0⟩,?_⟩;rintro i m σ H ⟨rfl,hi,p⟩;by_cases hlt:i<n
 .refine .inr ⟨hlt,Pv (i+1),λσ' H' p'=>⟨n-(i+1),by omega,rfl,hlt,p'⟩,λx H' y=>?_⟩;obtain⟨e,y⟩:=y;subst e y;exact hs i σ _ hlt p
 .have e:i=n:=by omega
  subst e;exact .inl ⟨Nat.le_refl _,hd σ H p⟩
abbrev R2:=V->V->Hp->VK->Prop
def OpR(X:Cx)(f:Value->Value->Sem Value)(r:R2):Prop :=
 ∀(pins:List (Addr×Obj)) (s:Shared) (σ:St) (H:Hp) (x y:V) (v u:Value) (Q:VK),Inv X pins σ H s->RelV x v->RelV y u->r x y H Q ->
  wpAny (model X.prog X.w) X.A (f v u) (EP X pins σ Q) X.xe s
def UnR(X:Cx)(f:Value->Sem Value)(r:V->Hp->VK->Prop):Prop :=
 ∀(pins:List (Addr×Obj)) (s:Shared) (σ:St) (H:Hp) (x:V) (v:Value) (Q:VK),Inv X pins σ H s->RelV x v->r x H Q ->
  wpAny (model X.prog X.w) X.A (f v) (EP X pins σ Q) X.xe s
def E9(X:Cx)(f:Value)(r:List V->Hp->VK->Prop):Prop :=
 ∀(pins:List (Addr×Obj)) (s:Shared) (σ:St) (H:Hp) (xs:List V) (us:List Value) (Q:VK),Inv X pins σ H s->Vals xs us->r xs H Q ->
  wpAny (model X.prog X.w) X.A (call f us) (EP X pins σ Q) X.xe s
def b5a(X:Cx)(r:V->Hp->(Bool->Hp->Prop)->Prop):Prop :=
 ∀(pins:List (Addr×Obj)) (s:Shared) (σ:St) (H:Hp) (x:V) (v:Value) (Q:Bool->Hp->Prop),Inv X pins σ H s->RelV x v->r x H Q ->
  wpAny (model X.prog X.w) X.A (truthy v) (TP X pins σ Q) X.xe s
def tOp(r:R2)(ta tb:TE):TE:=λσ H Q=>ta σ H λx H1=>tb σ H1 λy H2=>r x y H2 Q
def tUn(r:V->Hp->VK->Prop)(ta:TE):TE:=λσ H Q=>ta σ H λx H1=>r x H1 Q
def rI(C:Int->Int->Prop)(g:Int->Int->V):R2:=λx y H Q=>∃i j,x=.int i/\y=.int j/\C i j/\Q (g i j) H
def rI0(g:Int->Int->V):R2:=λx y H Q=>∃i j,x=.int i/\y=.int j/\Q (g i j) H
def rU(g:Int->V):V->Hp->VK->Prop:=λx H Q=>∃i,x=.int i/\Q (g i) H
section
variable {X:Cx}{a b c:Expr}{ta tb tc:TE}{pos:Pos}
theorem b3w(ha:PE X a ta)(hb:PE X b tb){pins:List (Addr×Obj)}{s:Shared}{σ:St}{H:Hp}{R:V->V->Hp->Prop}(I:Inv X pins σ H s)
  (h:ta σ H λx H1=>tb σ H1 λy H2=>R x y H2) {Q:Value->Shared->Prop}{f:Value->Value->Sem Value}
  (hf:∀v u s2 x y H2,Inv X pins σ H2 s2->RelV x v->RelV y u->R x y H2->wpAny (model X.prog X.w) X.A (f v u) Q X.xe s2) :
  wpAny (model X.prog X.w) X.A (eval a X.env) (λv s₁=>wpAny (model X.prog X.w) X.A (eval b X.env) (λu s₂=>wpAny (model X.prog X.w) X.A (f v u) Q X.xe s₂) X.xe s₁) X.xe s:=by
 refine thn (ha pins s σ H _ I h) λv s1 ⟨x,H1,I1,r1,q1⟩=>?_;refine thn (hb pins s1 σ H1 _ I1 q1) λu s2 ⟨y,H2,I2,r2,q2⟩=>?_;exact hf v u s2 x y H2 I2 r1 r2 q2
theorem U3{op:Operator}{r:R2}(ho:OpR X (binaryOp op) r)(ha:PE X a ta)(hb:PE X b tb):PE X (.BinOp a op b pos) (tOp r ta tb):=by
 intro pins s σ H Q I h;exact wpAny_BinOp (b3w ha hb I h λv u s2 x y H2 I2 rx ry q=>ho pins s2 σ H2 x y v u Q I2 rx ry q)
theorem b4v{op:UnaryOp}{r:V->Hp->VK->Prop}(ho:UnR X (unaryOp op) r)(ha:PE X a ta):PE X (.UnaryOp op a pos) (tUn r ta):=by
 intro pins s σ H Q I h;exact UnaryOp_ (thn (ha pins s σ H _ I h) λv s1 ⟨x,H1,I1,r1,q1⟩=>ho pins s1 σ H1 x v Q I1 r1 q1)
theorem opI{f:Value->Value->Sem Value}{C:Int->Int->Prop}{g:Int->Int->Int}
  (rule:∀(i j:Int) (t u:Tok) (s:Shared) (Q:Value->Shared->Prop) (E:Value->Shared->Prop),C i j->Q (.int (g i j) s.toks) {s with toks:=s.toks+1}->wpAny (model X.prog X.w) X.A (f (.int i t) (.int j u)) Q E s) :
  OpR X f (rI C λi j=>.int (g i j)):=by
 intro pins s σ H x y v u Q I rx ry h;obtain⟨i,j,rfl,rfl,hc,q⟩:=h;obtain⟨t,rfl⟩:=rx;obtain⟨t',rfl⟩:=ry;exact rule i j t t' s _ _ hc ⟨.int (g i j),H,I.tok _,⟨_,rfl⟩,q⟩
theorem b4B{f:Value->Value->Sem Value}{g:Int->Int->Int}
  (rule:∀(i j:Int) (t u:Tok) (s:Shared) (Q:Value->Shared->Prop) (E:Value->Shared->Prop),Q (.int (g i j) s.toks) {s with toks:=s.toks+1}->wpAny (model X.prog X.w) X.A (f (.int i t) (.int j u)) Q E s) :
  OpR X f (rI0 λi j=>.int (g i j)):=by
 intro pins s σ H x y v u Q I rx ry h;obtain⟨i,j,rfl,rfl,q⟩:=h;obtain⟨t,rfl⟩:=rx;obtain⟨t',rfl⟩:=ry;exact rule i j t t' s _ _ ⟨.int (g i j),H,I.tok _,⟨_,rfl⟩,q⟩
theorem b0a{f:Value->Value->Sem Value}{g:Int->Int->Bool}
  (rule:∀(i j:Int) (t u:Tok) (s:Shared) (Q:Value->Shared->Prop) (E:Value->Shared->Prop),Q (.bool (g i j)) s->wpAny (model X.prog X.w) X.A (f (.int i t) (.int j u)) Q E s) :
  OpR X f (rI0 λi j=>.bl (g i j)):=by
 intro pins s σ H x y v u Q I rx ry h;obtain⟨i,j,rfl,rfl,q⟩:=h;obtain⟨t,rfl⟩:=rx;obtain⟨t',rfl⟩:=ry;exact rule i j t t' s _ _ ⟨.bl (g i j),H,I,rfl,q⟩
def b4R(i j:Int):Prop:=0<j/\j<1073741824
def b4Q(i j:Int):Prop:=0<=j/\j<=1000000/\i.natAbs<2 ^ 64
def CMul(i j:Int):Prop:=(-(2 ^ 64)<i/\i<2 ^ 64)∨(-(2 ^ 64)<j/\j<2 ^ 64)
theorem CMul.ok{i j:Int}(h:CMul i j):IntMulOk i j:=by
 rcases h with⟨h1,h2⟩|⟨h1,h2⟩
 .exact .of_left (intBits_le_64 h1 h2)
 .exact .of_right (intBits_le_64 h1 h2)
theorem b2J:OpR X (binaryOp .Add) (rI0 λi j=>.int (i+j)):=b4B λ_ _ _ _ _ _ _ q=>add_int q
theorem b2x:OpR X (binaryOp .Sub) (rI0 λi j=>.int (i-j)):=b4B λ_ _ _ _ _ _ _ q=>sub_int q
theorem b2C:OpR X (binaryOp .Mult) (rI CMul λi j=>.int (i*j)):=opI λ_ _ _ _ _ _ _ hc q=>mul_int q hc.ok
theorem a9Z:OpR X (binaryOp .FloorDiv) (rI b4R λi j=>.int (i / j)):=opI λi j _ _ _ _ _ hc q=>by
 have h1:(0:Int)<j:=hc.1;have h2:j<1073741824:=hc.2;exact floordiv_int (by omega) (by rw[Int.fdiv_eq_ediv_of_nonneg i (by omega)];exact q) (.inl (PyProof.noPylong_small (by omega)))
theorem b2D:OpR X (binaryOp .Mod) (rI (λ_ j=>0<j) λi j=>.int (i % j)):=opI λi j _ _ _ _ _ hc q=>by
 have h1:(0:Int)<j:=hc;exact mod_int' (by omega) (by rw[Int.fmod_eq_emod_of_nonneg i (by omega)];exact q)
theorem b2z:OpR X (binaryOp .Pow) (rI b4Q λi j=>.int (i ^ j.toNat)):=opI λ_ _ _ _ _ _ _ hc q=>pow_int_small hc.1 hc.2.1 hc.2.2 q
theorem unI{f:Value->Sem Value}{g:Int->Int}
  (rule:∀(i:Int) (t:Tok) (s:Shared) (Q:Value->Shared->Prop) (E:Value->Shared->Prop),Q (.int (g i) s.toks) {s with toks:=s.toks+1}->wpAny (model X.prog X.w) X.A (f (.int i t)) Q E s) :
  UnR X f (rU λi=>.int (g i)):=by
 intro pins s σ H x v Q I rx h;obtain⟨i,rfl,q⟩:=h;obtain⟨t,rfl⟩:=rx;exact rule i t s _ _ ⟨.int (g i),H,I.tok _,⟨_,rfl⟩,q⟩
theorem b1E:UnR X (unaryOp .USub) (rU λi=>.int (-i)):=unI λ_ _ _ _ _ q=>neg_int q
end
noncomputable def b4h:V->V->Bool
 |.non,.non=>true | .non,.int _=>true | .int _,.non=>true | .non,.bl _=>true | .bl _,.non=>true | .non,.str _=>true | .str _,.non=>true
 |.int _,.int _=>true | .bl _,.bl _=>true | .str _,.str _=>true | .byt _,.byt _=>true
 |.int _,.str _=>true | .str _,.int _=>true | .bl _,.str _=>true | .str _,.bl _=>true
 |_,_=>false
def rEq:R2:=λx y H Q=>b4h x y=true/\Q (.bl (decide (x=y))) H
def rNe:R2:=λx y H Q=>b4h x y=true/\Q (.bl (!decide (x=y))) H
theorem a5N{i j:Int}:decide (V.int i=V.int j)=(i==j):=by
 rw[Bool.eq_iff_iff];simp
theorem a8Y{i j:Bool}:decide (V.bl i=V.bl j)=(i==j):=by
 rw[Bool.eq_iff_iff];simp
theorem a5M{i j:Str}:decide (V.str i=V.str j)=(i==j):=by
 rw[Bool.eq_iff_iff];simp
theorem a5O{i j:Array UInt8}:decide (V.byt i=V.byt j)=(i.toList==j.toList):=by
 rw[Bool.eq_iff_iff];cases i;cases j;simp
section
variable {X:Cx}{a b c:Expr}{ta tb tc:TE}{pos:Pos}
theorem B9{pins:List (Addr×Obj)}{σ:St}{H:Hp}{s:Shared}{Q:VK}{k k':Bool}(I:Inv X pins σ H s)(q:Q (.bl k) H)(e:k=k'):EP X pins σ Q (.bool k') s:=by
 subst e;exact⟨.bl k,H,I,rfl,q⟩
theorem b1q:OpR X (compareOp .Eq) rEq:=by
 intro pins s σ H x y v u Q I rx ry h;obtain⟨hs,q⟩:=h;cases x with
 |non =>
  cases rx;cases y with
  |non=>cases ry;exact PySem.EqNone.eq_none_none (B9 I q (by simp))
  |bl j=>cases ry;exact PySem.EqNone.eq_none_bool (B9 I q (by simp))
  |int j=>obtain⟨t',rfl⟩:=ry;exact PySem.EqNone.eq_none_int (B9 I q (by simp))
  |str j=>obtain⟨t',rfl⟩:=ry;exact PySem.EqNone.eq_none_str (B9 I q (by simp))
  |_=>exact absurd (show false=true from hs) Bool.false_ne_true
 |bl i =>
  cases rx;cases y with
  |non=>cases ry;exact PySem.EqNone.eq_bool_none (B9 I q (by simp))
  |bl j=>cases ry;exact eq_bool (B9 I q a8Y)
  |str j=>obtain⟨t',rfl⟩:=ry;exact PySem.EqMixed.eq_bool_str (B9 I q (by simp))
  |_=>exact absurd (show false=true from hs) Bool.false_ne_true
 |int i =>
  obtain⟨t,rfl⟩:=rx;cases y with
  |non=>cases ry;exact PySem.EqNone.eq_int_none (B9 I q (by simp))
  |int j=>obtain⟨t',rfl⟩:=ry;exact eq_int (B9 I q a5N)
  |str j=>obtain⟨t',rfl⟩:=ry;exact PySem.EqMixed.eq_int_str (B9 I q (by simp))
  |_=>exact absurd (show false=true from hs) Bool.false_ne_true
 |str i =>
  obtain⟨t,rfl⟩:=rx;cases y with
  |non=>cases ry;exact PySem.EqNone.eq_str_none (B9 I q (by simp))
  |bl j=>cases ry;exact PySem.EqMixed.eq_str_bool (B9 I q (by simp))
  |int j=>obtain⟨t',rfl⟩:=ry;exact PySem.EqMixed.eq_str_int (B9 I q (by simp))
  |str j=>obtain⟨t',rfl⟩:=ry;exact eq_str (B9 I q a5M)
  |_=>exact absurd (show false=true from hs) Bool.false_ne_true
 |byt i =>
  obtain⟨t,rfl⟩:=rx;cases y with
  |byt j=>obtain⟨t',rfl⟩:=ry;exact PySem.W.eq_bytes (B9 I q a5O)
  |_=>exact absurd (show false=true from hs) Bool.false_ne_true
 |_=>cases y<;>exact absurd (show false=true from hs) Bool.false_ne_true
theorem b1o:OpR X (compareOp .NotEq) rNe:=by
 intro pins s σ H x y v u Q I rx ry h;obtain⟨hs,q⟩:=h;cases x with
 |non =>
  cases rx;cases y with
  |non=>cases ry;exact PySem.EqNone.ne_none_none (B9 I q (by simp))
  |bl j=>cases ry;exact PySem.EqNone.ne_none_bool (B9 I q (by simp))
  |int j=>obtain⟨t',rfl⟩:=ry;exact PySem.EqNone.ne_none_int (B9 I q (by simp))
  |str j=>obtain⟨t',rfl⟩:=ry;exact PySem.EqNone.ne_none_str (B9 I q (by simp))
  |_=>exact absurd (show false=true from hs) Bool.false_ne_true
 |bl i =>
  cases rx;cases y with
  |non=>cases ry;exact PySem.EqNone.ne_bool_none (B9 I q (by simp))
  |bl j=>cases ry;exact ne_bool (B9 I q (congrArg not a8Y))
  |str j=>obtain⟨t',rfl⟩:=ry;exact PySem.EqMixed.ne_bool_str (B9 I q (by simp))
  |_=>exact absurd (show false=true from hs) Bool.false_ne_true
 |int i =>
  obtain⟨t,rfl⟩:=rx;cases y with
  |non=>cases ry;exact PySem.EqNone.ne_int_none (B9 I q (by simp))
  |int j=>obtain⟨t',rfl⟩:=ry;exact ne_int (B9 I q (congrArg not a5N))
  |str j=>obtain⟨t',rfl⟩:=ry;exact PySem.EqMixed.ne_int_str (B9 I q (by simp))
  |_=>exact absurd (show false=true from hs) Bool.false_ne_true
 |str i =>
  obtain⟨t,rfl⟩:=rx;cases y with
  |non=>cases ry;exact PySem.EqNone.ne_str_none (B9 I q (by simp))
  |bl j=>cases ry;exact PySem.EqMixed.ne_str_bool (B9 I q (by simp))
  |int j=>obtain⟨t',rfl⟩:=ry;exact PySem.EqMixed.ne_str_int (B9 I q (by simp))
  |str j=>obtain⟨t',rfl⟩:=ry;exact ne_str (B9 I q (congrArg not a5M))
  |_=>exact absurd (show false=true from hs) Bool.false_ne_true
 |byt i =>
  obtain⟨t,rfl⟩:=rx;cases y with
  |byt j=>obtain⟨t',rfl⟩:=ry;exact PySem.W.ne_bytes (B9 I q (congrArg not a5O))
  |_=>exact absurd (show false=true from hs) Bool.false_ne_true
 |_=>cases y<;>exact absurd (show false=true from hs) Bool.false_ne_true
theorem b1p:OpR X (compareOp .Lt) (rI0 λi j=>.bl (decide (i<j))):=b0a λ_ _ _ _ _ _ _ q=>lt_int q
theorem a3L:OpR X (compareOp .LtE) (rI0 λi j=>.bl (decide (i<=j))):=b0a λ_ _ _ _ _ _ _ q=>le_int q
theorem b4z:OpR X (compareOp .Gt) (rI0 λi j=>.bl (decide (j<i))):=b0a λ_ _ _ _ _ _ _ q=>gt_int q
theorem b4A:OpR X (compareOp .GtE) (rI0 λi j=>.bl (decide (j<=i))):=b0a λ_ _ _ _ _ _ _ q=>ge_int q
theorem a8c:OpR X (compareOp .Is) (λx y H Q=>y=.non/\Q (.bl (decide (x=.non))) H):=by
 intro pins s σ H x y v u Q I rx ry h;obtain⟨rfl,q⟩:=h;cases ry;refine is_none_gen (B9 I q ?_);cases x<;>first
  |(cases rx;rfl)
  |(obtain⟨t,rfl⟩:=rx;rfl)
theorem a9Y:OpR X (compareOp .IsNot) (λx y H Q=>y=.non/\Q (.bl (!decide (x=.non))) H):=by
 intro pins s σ H x y v u Q I rx ry h;obtain⟨rfl,q⟩:=h;cases ry;refine isnot_none_gen (B9 I q ?_);cases x<;>first
  |(cases rx;rfl)
  |(obtain⟨t,rfl⟩:=rx;rfl)
theorem J1(b:Expr){op:CmpOp}(h:op≠.In:=by decide)(h2:op≠.NotIn:=by decide):behindInMarks op b=false:=by
 have e1:(op==CmpOp.In)=false:=by cases op<;>first|rfl|exact absurd rfl h
 have e2:(op==CmpOp.NotIn)=false:=by cases op<;>first|rfl|exact absurd rfl h2
 cases b with
 |Set elts k p=>show(k==0 && (op==CmpOp.In || op==CmpOp.NotIn) && elts.all (constantsAlone 8))=false;rw[e1,e2,Bool.or_false,Bool.and_false,Bool.false_and]
 |_=>rfl
theorem V8{op:CmpOp}{r:R2}(ho:OpR X (compareOp op) r)(ha:PE X a ta)(hb:PE X b tb)(hm:behindInMarks op b=false):PE X (.Compare a [op] [b] pos) (tOp r ta tb):=by
 intro pins s σ H Q I h;exact wpAny_Compare1 (b3w ha hb I h λv u s2 x y H2 I2 rx ry q=>ho pins s2 σ H2 x y v u Q I2 rx ry q) hm
def J7(t:TE):TT:=λσ H Q=>t σ H λx H'=>∃k,x=.bl k/\Q k H'
theorem G5{op:CmpOp}{r:R2}(ho:OpR X (compareOp op) r)(ha:PE X a ta)(hb:PE X b tb)(hm:behindInMarks op b=false):PT X (.Compare a [op] [b] pos) (J7 (tOp r ta tb)):=by
 intro pins s σ H Q I h;refine wpAny_isTrue_Compare1 (thn (ha pins s σ H _ I h) λv s1 ⟨x,H1,I1,r1,q1⟩=>thn (hb pins s1 σ H1 _ I1 q1) λu s2 ⟨y,H2,I2,r2,q2⟩ =>
  thn (ho pins s2 σ H2 x y v u _ I2 r1 r2 q2) λc s3 ⟨z,H3,I3,r3,k,e,q3⟩=>?_) hm
 subst e;cases r3;exact wpAny_truthy_bool ⟨H3,I3,q3⟩
def a2L(r r':R2)(ta tb tc:TE):TE:=λσ H Q=>ta σ H λx H1=>tb σ H1 λy H2=>r x y H2 λz H3=>∃k,z=.bl k /\
 (if k=true then tc σ H3 λw' H4=>r' y w' H4 Q else Q (.bl false) H3)
theorem a7Z{op op':CmpOp}{r r':R2}(ho:OpR X (compareOp op) r)(ho':OpR X (compareOp op') r')(ha:PE X a ta)(hb:PE X b tb)(hc:PE X c tc)
  (hm:lastMarks [op,op'] [b,c]=false:=by with_unfolding_all rfl):PE X (.Compare a [op,op'] [b,c] pos) (a2L r r' ta tb tc):=by
 intro pins s σ H Q I h;refine Compare_chain (thn (ha pins s σ H _ I h) λv s1 ⟨x,H1,I1,r1,q1⟩=>chain_link (thn (hb pins s1 σ H1 _ I1 q1) λu s2 ⟨y,H2,I2,r2,q2⟩ =>
  thn (ho pins s2 σ H2 x y v u _ I2 r1 r2 q2) λd s3 ⟨z,H3,I3,r3,k,e,q3⟩=>?_)) hm
 subst e;cases r3;refine wpAny_truthy_bool ?_;cases k with
 |false=>exact ite_ff ⟨.bl false,H3,I3,rfl,q3⟩
 |true=>exact ite_tt (chain_last (thn (hc pins s3 σ H3 _ I3 q3) λw' s4 ⟨z',H4,I4,r4,q4⟩=>ho' pins s4 σ H4 y z' u w' Q I4 r2 r4 q4))
theorem a7E{op op':CmpOp}{r r':R2}(ho:OpR X (compareOp op) r)(ho':OpR X (compareOp op') r')(ha:PE X a ta)(hb:PE X b tb)(hc:PE X c tc)
  (hm:lastMarks [op,op'] [b,c]=false:=by with_unfolding_all rfl):PT X (.Compare a [op,op'] [b,c] pos) (J7 (a2L r r' ta tb tc)):=by
 intro pins s σ H Q I h;refine isTrue_chain (thn (ha pins s σ H _ I h) λv s1 ⟨x,H1,I1,r1,q1⟩=>test_link (thn (hb pins s1 σ H1 _ I1 q1) λu s2 ⟨y,H2,I2,r2,q2⟩ =>
  thn (ho pins s2 σ H2 x y v u _ I2 r1 r2 q2) λd s3 ⟨z,H3,I3,r3,k,e,q3⟩=>?_)) hm
 subst e;cases r3;refine wpAny_truthy_bool ?_;cases k with
 |false =>
  obtain⟨k',e',q'⟩:=q3;cases e';exact ite_ff ⟨H3,I3,q'⟩
 |true =>
  refine ite_tt (test_last (thn (hc pins s3 σ H3 _ I3 q3) λw' s4 ⟨z',H4,I4,r4,q4⟩=>thn (ho' pins s4 σ H4 y z' u w' _ I4 r2 r4 q4) λd' s5 ⟨z2,H5,I5,r5,k2,e2,q5⟩=>?_));subst e2;cases r5;exact wpAny_truthy_bool ⟨H5,I5,q5⟩
def b3D(K:PySem.W.Frag)(x:V)(H:Hp)(k:Bool):Prop :=
 match x with
 |.non=>k=false
 |.bl b=>k=b
 |.int i=>k=(i != 0)
 |.str y=>y.length<=sizeLine/\k=((y.length:Int) != 0)
 |.byt y=>y.size<=sizeLine/\k=((y.size:Int) != 0)
 |.ref p=>(∃xs,SqL K H p xs/\k=!xs.isEmpty)∨(∃xs,SqT K H p xs/\k=!xs.isEmpty)∨∃kvs,H p=some (.dK kvs)/\k=!kvs.isEmpty
 |_=>False
theorem a4S{κ:Type}{kvs:List (κ×V)}{vs:List (κ×Value)}(r:KV kvs vs):(!vs.isEmpty)=!kvs.isEmpty:=by
 cases r<;>rfl
theorem a1A{xs:List V}{its:List Value}(r:Vals xs its):(!its.toArray.isEmpty)=!xs.isEmpty:=by
 cases r<;>simp
theorem U8:(sizeLine:Nat)<2 ^ 63:=by rw[sizeLine_eq];decide
theorem b1G:b5a X (λx H Q=>∃k,b3D X.K x H k/\Q k H):=by
 intro pins s σ H x v Q I rx h;obtain⟨k,e,q⟩:=h;have hl:=U8;have hs:sizeLine=16777216:=sizeLine_eq;cases x with
 |non =>
  cases rx;have e':k=false:=e;subst e';exact truthy_none ⟨H,I,q⟩
 |bl b =>
  cases rx;have e':k=b:=e;subst e';exact wpAny_truthy_bool ⟨H,I,q⟩
 |int i =>
  obtain⟨t,rfl⟩:=rx;have e':k=(i != 0):=e;subst e';exact PySem.P.truthy_int ⟨H,I,q⟩
 |str y =>
  obtain⟨t,rfl⟩:=rx;obtain⟨hy,e'⟩:y.length<=sizeLine/\k=((y.length:Int) != 0):=e;subst e';exact PySem.P.truthy_str (by omega) ⟨H,I.tok _,q⟩
 |byt y =>
  obtain⟨t,rfl⟩:=rx;obtain⟨hy,e'⟩:y.size<=sizeLine/\k=((y.size:Int) != 0):=e;subst e';exact PySem.W.truthy_bytes (by omega) ⟨H,I.tok _,q⟩
 |ref p =>
  cases rx;have e':(∃xs,SqL X.K H p xs/\k=!xs.isEmpty)∨(∃xs,SqT X.K H p xs/\k=!xs.isEmpty)∨∃kvs,H p=some (.dK kvs)/\k=!kvs.isEmpty:=e;rcases e' with⟨xs,hx,e'⟩|⟨xs,hx,e'⟩|⟨kvs,hx,e'⟩
  .subst e';obtain⟨its,r,pl,hz⟩:=I.list hx;have hlen:=r.length;exact wpAny_truthy_list pl.isList (by simp only[List.size_toArray];omega) ⟨H,I.tok _,by rw[a1A r];exact q⟩
  .subst e';obtain⟨its,r,pl,hz⟩:=I.tuple hx;have hlen:=r.length;exact truthy_tuple pl (by simp only[List.size_toArray];omega) ⟨H,I.tok _,by rw[a1A r];exact q⟩
  .subst e';obtain⟨hz,hS,vs,r,m⟩:kvs.length<=sizeLine/\(p==sysModules)=false/\∃vs,KV kvs vs/\s.heap.DictOf (C3 X.prog X.w) p vs:=I.hok p _ hx;have hlen:kvs.length=vs.length:=Paired.length r;exact wpAny_truthy_dict hS m (by omega) ⟨H,I.tok _,by rw[a4S r];exact q⟩
 |_=>exact(show False from e).elim
theorem a7D(ha:PE X a ta)(he:∀whole,isTrue a X.env whole=(do let v <-whole;standAt a.pos;holding [v] (truthy v))) :
  PT X a (λσ H Q=>ta σ H λx H'=>∃k,b3D X.K x H' k/\Q k H'):=by
 intro pins s σ H Q I h;exact isTrue_plain (thn (ha pins s σ H _ I h) λv s1 ⟨x,H1,I1,r1,q1⟩=>b1G pins s1 σ H1 x v Q I1 r1 q1) (he _)
theorem a4J:OpR X (binaryOp .Add) (λx y H Q=>∃i j,x=.str i/\y=.str j/\i.length+j.length<=sizeLine/\Q (.str (i++j)) H):=by
 intro pins s σ H x y v u Q I rx ry h;obtain⟨i,j,rfl,rfl,hz,q⟩:=h;obtain⟨t,rfl⟩:=rx;obtain⟨t',rfl⟩:=ry;exact add_str (λt' tk=>⟨.str (i++j),H,I.tok _,⟨_,rfl⟩,q⟩) hz
theorem a0y{x:V}{us:List Value}(r:Vals [x] us):∃u,us=[u]/\RelV x u:=by
 cases r with
 |cons r1 r2=>cases r2;exact⟨_,rfl,r1⟩
theorem b3K{x y:V}{us:List Value}(r:Vals [x,y] us):∃u w',us=[u,w']/\RelV x u/\RelV y w':=by
 cases r with
 |cons r1 r2 =>
  cases r2 with
  |cons r3 r4=>cases r4;exact⟨_,_,rfl,r1,r3⟩
theorem a6N(hc:X.calm=true):E9 X (.builtin "min") (λxs H Q=>∃i j,xs=[.int i,.int j]/\Q (.int (if j<i then j else i)) H):=by
 intro pins s σ H xs us Q I r h;obtain⟨i,j,rfl,q⟩:=h;obtain⟨u,w',rfl,⟨t,rfl⟩,⟨t',rfl⟩⟩:=b3K r;refine min_two_ints (I.ok.hd hc) λh' tk k=>⟨_,H,I.kept k,?_,q⟩;by_cases hj:j<i
 .rw[if_pos hj,if_pos hj];exact⟨_,rfl⟩
 .rw[if_neg hj,if_neg hj];exact⟨_,rfl⟩
theorem a6U:E9 X (.type "int") (λxs H Q=>(∃i,xs=[.int i]/\Q (.int i) H)∨∃k,xs=[.bl k]/\Q (.int (if k then 1 else 0)) H):=by
 intro pins s σ H xs us Q I r h;rcases h with⟨i,rfl,q⟩|⟨k,rfl,q⟩
 .obtain⟨u,rfl,t,rfl⟩:=a0y r;exact call_int_int ⟨.int i,H,I,⟨_,rfl⟩,q⟩
 .obtain⟨u,rfl,r1⟩:=a0y r;cases r1;exact call_int_bool ⟨.int (if k then 1 else 0),H,I.tok _,⟨_,rfl⟩,q⟩
theorem a3s:E9 X (.type "str") (λxs H Q=>∃i,xs=[.int i]/\i.natAbs.log2<1920/\Q (.str (toString i)) H):=by
 intro pins s σ H xs us Q I r h;obtain⟨i,rfl,hz,q⟩:=h;obtain⟨u,rfl,t,rfl⟩:=a0y r;exact PySem.P.str_of_int hz ⟨.str _,H,I.tok _,⟨_,rfl⟩,q⟩
end
structure ObjM(h:Heap)(x dx C:Addr)(mA:Str->Option Value):Prop where
 obj:h.get? x=some (PySem.W.instObj C dx)
 ns:h.Ns1 dx mA
 ne:dx≠x
theorem a6n{h:Heap}{dx:Addr}{mA:Str->Option Value}(n:h.Ns1 dx mA):∃od,h.get? dx=some od/\∀name,PySem.W.lookIn name od=some (mA name):=by
 obtain⟨o,es,ep,ho,hd,hk,_,hm⟩:=n;refine⟨o,ho,λname=>?_⟩;have e:=hm name;unfold nsFind findBy at e;rw[<-Array.find?_toList]at e;unfold PySem.W.lookIn;rw[hd];dsimp only;split
 .rename_i y q;rw[q]at e;exact congrArg some e
 .rename_i q;rw[q]at e;have a:es.toList.any (·.refKey)=false:=by
   rw[List.any_eq_false];intro y hy;obtain⟨z,t,hkey⟩:=hk y (Array.mem_toList_iff.mp hy);simp[DictEntry.refKey,hkey]
  have a':¬es.toList.any (·.refKey)=true:=by rw[a];exact Bool.false_ne_true
  rw[if_neg a'];exact congrArg some e
theorem ObjM.look{h:Heap}{x dx C:Addr}{mA:Str->Option Value}(I:ObjM h x dx C mA):∃od,PySem.W.InstAt h x (PySem.W.instObj C dx) C (some od)/\∀name,PySem.W.lookIn name od=some (mA name) :=
 let ⟨od,ho,hl⟩:=a6n I.ns
 ⟨od,⟨I.obj,rfl,rfl,ho⟩,hl⟩
section
variable {prog:Program}{w:World}{A:Around}{E:Value->Shared->Prop}{s:Shared}{K:PySem.W.Frag}{x dx C f:Addr}{mA:Str->Option Value}{name:Str}{v:Value}
theorem b0y{expr:Bool}{Q:Value->Shared->Prop}(X:K.In s.heap)(I:ObjM s.heap x dx C mA)(hg:PySem.W.plainGet K C name=true)(hh:PySem.W.hasDictIn K C=true)
  (ha:PySem.W.findIn K (.ref C) name=some none) (hv:mA name=some v) (hv':PySem.W.handedIn v=true) (h:Q v {s with toks:=s.toks+1}) :
  wpAny (model prog w) A (getAttr (.ref x) name expr) Q E s:=by
 obtain⟨od,J,hl⟩:=I.look;exact PySem.W.get_value X J (PySem.W.plainGet_of hg).1 (PySem.W.findObj_own hh ha rfl (by rw[hl,hv])) hv' h
theorem a8K{pl:Sem Bool}{Q:Value×List Value->Shared->Prop}(X:K.In s.heap)(I:ObjM s.heap x dx C mA)(hg:PySem.W.plainGet K C name=true)
  (hf:PySem.W.findIn K (.ref C) name=some (some (.ref f))) (ht:PySem.W.isFn K (.ref f)=true) (hv:mA name=none) (h:Q (.ref f,[.ref x]) s) :
  wpAny (model prog w) A (getMethod (.ref x) name pl) Q E s:=by
 obtain⟨od,J,hl⟩:=I.look;exact PySem.W.method_fn X J (PySem.W.plainGet_of hg).1 (PySem.W.plainGet_of hg).2 hf (beq_iff_eq.mp ht) (by show(PySem.W.lookIn name od).map (·.isSome)=some false;rw[hl,hv];rfl) h
theorem a9m{ns:List Str}{Q:Unit->Shared->Prop}(X:K.In s.heap)(I:ObjM s.heap x dx C mA)
  (hs:PySem.W.findIn K (.ref C) "__setattr__"=some (some (.builtin "object.__setattr__"))) (hp:PySem.W.plainOver K C=true) (ht:PySem.W.takerIn K C name=some none) (hh:PySem.W.hasDictIn K C=true)
  (hw:PySem.Within mA ns) (hsz:ns.length<=sizeLine)
  (h:∀h',ObjM h' x dx C (λy=>if y=name then some v else mA y)->Heap.SameBut dx s.heap h'->Q () {s with heap:=h',toks:=s.toks+2}) :
  wpAny (model prog w) A (setAttr (.ref x) name v) Q E s:=by
 obtain⟨od,J,hl⟩:=I.look;refine PySem.W.set_plain X J hs (PySem.W.osa_open (s:={s with toks:=s.toks+1}) (r:=none) X J hp ht λb=>?_);obtain⟨cd,hc,hd'⟩:=PySem.W.any_some hh;have hx:s.heap.get? x=some ⟨.ref C,some dx,.plain,#[]⟩:=I.obj;refine wpAny_bind (wpAny_pure (wpAny_bind (wpAny_bind (wpAny_loadPart hx (wpAny_bind (PySem.W.Looks.here (s:={s with toks:=s.toks+1}) (PySem.W.looks_clsIn X hc) ?_))))));rw[hd'];refine wpAny_pure (a:=some dx) (wpAny_bind (wpAny_pure (wpAny_bind ?_)));refine wpAny_nsSet1 (s:={s with toks:=s.toks+1}) I.ns λh' hn2 hs2=>?_;obtain⟨oD,esD,epD,hoD,hdD,hcD⟩:=hn2.count (PySem.Within.cons name v hw);refine wpAny_bind (wpAny_lookBehind hoD (by rw[hdD];exact pastItsLine_dict (Nat.le_trans hcD (by rw[List.length_cons];omega))) ?_);exact wpAny_pure (h _ ⟨(hs2.2 _ (Ne.symm I.ne)).trans I.obj,hn2,I.ne⟩ hs2)
theorem a8s{R:Result->Shared->Prop}{vs:List Value}{kw:List (Str×Value)}(X:K.In s.heap)(hm:PySem.W.makesIn K C=true)
  (hi:PySem.W.findIn K (.ref C) "__init__"=some (some (.ref f))) (hf:PySem.W.typeIn K (.ref f)=some (.type "function"))
  (h:codeAny (model prog w) (A.under (.builtin "type.__call__" ⟨.ref C::vs,kw⟩)) (.call (.ref f) ⟨.ref (s.heap.objs.size+1)::vs,kw⟩) (PySem.W.InitBack (s.heap.objs.size+1) R)
   {s with heap:=(s.heap.push PySem.W.emptyDict).push (PySem.W.instObj C s.heap.objs.size)}) :
  codeAny (model prog w) A (.call (.ref C) ⟨vs,kw⟩) R s:=by
 obtain⟨hh,g,d,t,os⟩:=s;exact PySem.W.make_core (PySem.W.makes_of X hm) (PySem.W.looks_findIn X hi) (λself=>PySem.W.bind_fn X self hf) (.inl rfl) h
end
noncomputable def F0(f:Str)(v:V):List (Str×V)->List (Str×V)
 |[]=>[(f,v)]
 |(g,x)::r=>if g=f then(g,v)::r else(g,x)::F0 f v r
theorem a0C(f g:Str)(v:V):∀fs:List (Str×V),(F0 f v fs).lookup g=if g=f then some v else fs.lookup g
 |[]=>by
  show List.lookup g [(f,v)]=_;by_cases h:g=f
  .have hb:(g==f)=true:=beq_iff_eq.mpr h;simp only[List.lookup,hb,if_pos h]
  .have hb:(g==f)=false:=beq_eq_false_iff_ne.mpr h;simp only[List.lookup,hb,if_neg h]
 |(k,x)::r=>by
  have ih:=a0C f g v r;rw[show F0 f v ((k,x)::r)=(if k=f then(k,v)::r else(k,x)::F0 f v r)from rfl];by_cases hk:k=f
  .rw[if_pos hk];by_cases h:g=k
   .have hb:(g==k)=true:=beq_iff_eq.mpr h;simp only[List.lookup,hb,if_pos (h.trans hk)]
   .have hb:(g==k)=false:=beq_eq_false_iff_ne.mpr h;simp only[List.lookup,hb,if_neg (λe:g=f=>h (e.trans hk.symm))]
  .rw[if_neg hk];by_cases h:g=k
   .have hb:(g==k)=true:=beq_iff_eq.mpr h;simp only[List.lookup,hb,if_neg (λe:g=f=>hk (h.symm.trans e))]
   .have hb:(g==k)=false:=beq_eq_false_iff_ne.mpr h;simp only[List.lookup,hb];exact ih
theorem a0r(f:Str)(v:V):∀fs:List (Str×V),f∈(F0 f v fs).map (·.1)/\∀g,g∈fs.map (·.1)->g∈(F0 f v fs).map (·.1)
 |[]=>⟨by simp[F0],λg h=>by simp at h⟩
 |(k,x)::r=>by
  obtain⟨i1,i2⟩:=a0r f v r;rw[show F0 f v ((k,x)::r)=(if k=f then(k,v)::r else(k,x)::F0 f v r)from rfl];by_cases hk:k=f
  .rw[if_pos hk];subst hk;exact⟨by simp,λg h=>by simpa using h⟩
  .rw[if_neg hk];refine⟨?_,λg h=>?_⟩
   .rw[List.map_cons];exact List.mem_cons_of_mem _ i1
   .rw[List.map_cons]at h⊢;rcases List.mem_cons.mp h with e|e
    .exact List.mem_cons.mpr (.inl e)
    .exact List.mem_cons_of_mem _ (i2 g e)
theorem a0D(f:Str)(v:V):∀fs:List (Str×V),(F0 f v fs).length<=fs.length+1
 |[]=>by simp[F0]
 |(k,x)::r=>by
  have ih:=a0D f v r;rw[show F0 f v ((k,x)::r)=(if k=f then(k,v)::r else(k,x)::F0 f v r)from rfl];by_cases hk:k=f
  .rw[if_pos hk,List.length_cons,List.length_cons];omega
  .rw[if_neg hk,List.length_cons,List.length_cons];omega
theorem RelO.some_of{v:V}{o:Option Value}(r:RelO (some v) o):∃u,o=some u/\RelV v u:=by
 cases o with
 |none=>exact(show False from r).elim
 |some u=>exact⟨u,rfl,r⟩
theorem RelO.none_of{o:Option Value}(r:RelO none o):o=none:=by
 cases o with
 |none=>rfl
 |some u=>exact(show False from r).elim
theorem a6y{v:V}{u:Value}(r:RelV v u):PySem.W.handedIn u=true:=by
 cases v with
 |non=>cases(show u=Value.none from r);rfl
 |bl b=>cases(show u=Value.bool b from r);rfl
 |int i=>obtain⟨t,e⟩:=(show ∃t,u=Value.int i t from r);cases e;rfl
 |str x=>obtain⟨t,e⟩:=(show ∃t,u=Value.str x t from r);cases e;rfl
 |byt b=>obtain⟨t,e⟩:=(show ∃t,u=Value.bytes b t from r);cases e;rfl
 |flt b=>obtain⟨t,e⟩:=(show ∃t,u=Value.float b t from r);cases e;rfl
 |ref a=>cases(show u=Value.ref a from r);rfl
 |ty n=>cases(show u=Value.type n from r);rfl
section
variable {P:Program}{w:World}{H H':Hp}{h h':Heap}{a C dx:Addr}{fs fs':List (Str×V)}
theorem a0V(hok:HOk P w H h)(e:H a=some (.ins C dx fs)):∃mA,ObjM h a dx C mA/\(∀f,RelO (fs.lookup f) (mA f))/\PySem.Within mA (fs.map (·.1))/\fs.length<=1000/\H dx=some (.own a):=by
 obtain⟨d,z,ne,ob,mA,n,r,q⟩:=(show ObjOk P w H h a (.ins C dx fs)from hok a _ e);exact⟨mA,⟨ob,n,ne⟩,r,q,z,d⟩
end
structure Cls(K:PySem.W.Frag)(C:Addr):Prop where
 pg:PySem.W.plainGet K C Str.empty=true
 hd:PySem.W.hasDictIn K C=true
 po:PySem.W.plainOver K C=true
 sa:PySem.W.findIn K (.ref C) "__setattr__"=some (some (.builtin "object.__setattr__"))
theorem Cls.get{K:PySem.W.Frag}{C:Addr}(c:Cls K C)(f:Str):PySem.W.plainGet K C f=true:=c.pg
def NoAttr(K:PySem.W.Frag)(C:Addr)(f:Str):Prop:=PySem.W.findIn K (.ref C) f=some none
theorem NoAttr.taker{K:PySem.W.Frag}{C:Addr}{f:Str}(n:NoAttr K C f):PySem.W.takerIn K C f=some none:=by
 unfold PySem.W.takerIn;rw[show PySem.W.findIn K (.ref C) f=some none from n];rfl
structure Meth(K:PySem.W.Frag)(C:Addr)(m:Str)(f:Addr):Prop where
 at_:PySem.W.findIn K (.ref C) m=some (some (.ref f))
 fn:PySem.W.isFn K (.ref f)=true
 kp:PySem.W.keepIn K (.ref f)=true
section
variable {X:Cx}{pins:List (Addr×Obj)}{σ:St}{H:Hp}{s:Shared}{a C dx:Addr}{fs:List (Str×V)}{f:Str}{v:V}{A:Around}{E:Value->Shared->Prop}
theorem a4T{b:Bool}{Q:Value->Shared->Prop}(I:Inv X pins σ H s)(e:H a=some (.ins C dx fs))(c:Cls X.K C)(n:NoAttr X.K C f)(l:fs.lookup f=some v)
  (h:∀u s',Inv X pins σ H s'->RelV v u->Q u s'):wpAny (model X.prog X.w) A (getAttr (.ref a) f b) Q E s:=by
 obtain⟨mA,O,r,_,_,_⟩:=a0V I.hok e;obtain⟨u,hu,ru⟩:=RelO.some_of (v:=v) (o:=mA f) (by rw[<-l];exact r f);exact b0y I.kIn O (c.get f) c.hd n hu (a6y ru) (h u _ (I.tok _) ru)
theorem a1B{m:Str}{g:Addr}{pl:Sem Bool}{Q:Value×List Value->Shared->Prop}(I:Inv X pins σ H s)(e:H a=some (.ins C dx fs))(c:Cls X.K C)(k:Meth X.K C m g)(l:fs.lookup m=none)
  (h:Q (.ref g,[.ref a]) s):wpAny (model X.prog X.w) A (getMethod (.ref a) m pl) Q E s:=by
 obtain⟨mA,O,r,_,_,_⟩:=a0V I.hok e;have hn:mA m=none:=RelO.none_of (by rw[<-l];exact r m);exact a8K I.kIn O (c.get m) k.at_ k.fn hn h
theorem a4D{y:V}{u:Value}{Q:Unit->Shared->Prop}(I:Inv X pins σ H s)(e:H a=some (.ins C dx fs))(c:Cls X.K C)(n:NoAttr X.K C f)(hl:fs.length<1000)(ry:RelV y u)
  (h:∀s',Inv X pins σ (upd H a (.ins C dx (F0 f y fs))) s'->Q () s'):wpAny (model X.prog X.w) A (setAttr (.ref a) f u) Q E s:=by
 obtain⟨mA,O,r,wi,_,ho⟩:=a0V I.hok e;have hz:(fs.map (·.1)).length<=sizeLine:=by rw[List.length_map,sizeLine_eq];omega
 refine a9m I.kIn O c.sa c.po n.taker c.hd wi hz λh' O' sb=>h _ ?_;have hd:∃o,h'.get? dx=some o:=let ⟨o,_,_,e',_⟩:=O'.ns;⟨o,e'⟩
 refine I.write (x:=a) (e:=dx) (by rw[e];exact True.intro) (.inr ho) (λb q hb z=>(sb.2 b hb).trans z) hd ?_;refine⟨by rw[A6 O.ne];exact ho,?_,O.ne,O'.obj,_,O'.ns,λg=>?_,λg hg=>?_⟩
 .have:=a0D f y fs;omega
 .show RelO ((F0 f y fs).lookup g) (if g=f then some u else mA g);rw[a0C];by_cases q:g=f
  .rw[if_pos q,if_pos q];exact ry
  .rw[if_neg q,if_neg q];exact r g
 .by_cases q:g=f
  .rw[q];exact(a0r f y fs).1
  .refine(a0r f y fs).2 g (wi g λz=>hg ?_);show(if g=f then some u else mA g)=none;rw[if_neg q];exact z
theorem Inv.made(I:Inv X pins σ H s):Inv X pins σ (upd (upd H s.heap.objs.size (.own (s.heap.objs.size+1))) (s.heap.objs.size+1) (.ins C s.heap.objs.size []))
  {s with heap:=(s.heap.push PySem.W.emptyDict).push (PySem.W.instObj C s.heap.objs.size)}:=by
 have e1:(s.heap.push PySem.W.emptyDict).get? s.heap.objs.size=some PySem.W.emptyDict:=Heap.get?_push_size s.heap rfl;have e2:((s.heap.push PySem.W.emptyDict).push (PySem.W.instObj C s.heap.objs.size)).get? (s.heap.objs.size+1)=some (PySem.W.instObj C s.heap.objs.size):=by
  have:=Heap.get?_push_size (s.heap.push PySem.W.emptyDict) (o:=PySem.W.instObj C s.heap.objs.size) rfl;rwa[Heap.size_push]at this
 have e3:(s.heap.push PySem.W.emptyDict).Ns s.heap.objs.size (λ_=>none):=⟨PySem.W.emptyDict,#[],_,e1,rfl,(λe he=>absurd he (by simp)),λ_=>rfl⟩;have I1:=I.laid (a:=s.heap.objs.size) (o:=.own (s.heap.objs.size+1)) (h':=s.heap.push PySem.W.emptyDict) (t':=s.toks) (λb u q=>Heap.get?_push_of_some _ q) (Nat.le_refl _) ⟨_,e1⟩;refine I1.laid (a:=s.heap.objs.size+1) (o:=.ins C s.heap.objs.size []) (t':=s.toks) (λb u q=>Heap.get?_push_of_some _ q) (Nat.le_of_eq (Heap.size_push _ _)) ?_;have ne:s.heap.objs.size≠s.heap.objs.size+1:=Nat.ne_of_lt (Nat.lt_succ_self _);refine⟨by rw[A6 ne,A0],Nat.zero_le _,ne,e2,λ_=>none,(Heap.Ns1.of_empty e3).at λo q=>Heap.get?_push_of_some _ q,λ_=>True.intro,λy hy=>absurd rfl hy⟩
theorem b0E{prog:Program}{w:World}{env:Env}{e:Expr}{f:Str}{pos:Pos}{s:Shared}{Q:Value->Shared->Prop}(hb:attributeBase e f env (eval e env)=eval e env)
  (h:wpAny (model prog w) A (eval e env) (λo s₁=>wpAny (model prog w) A (getAttr o f true) Q E s₁) E s):wpAny (model prog w) A (eval (.Attribute e f pos) env) Q E s :=
 Attribute_any_ h (by rw[arm_eval_Attribute,hb])
end
def b3T(K:PySem.W.Frag)(ta:TE)(f:Str):TE:=λσ H Q=>ta σ H λx H1=>∃a C dx fs v,x=.ref a/\H1 a=some (.ins C dx fs)/\Cls K C/\NoAttr K C f/\fs.lookup f=some v/\Q v H1
def b4j(K:PySem.W.Frag)(ta tv:TE)(f:Str):TS:=λD σ H=>tv σ H λy H1=>ta σ H1 λx H2=>∃a C dx fs,x=.ref a/\H2 a=some (.ins C dx fs)/\Cls K C/\NoAttr K C f/\fs.length<1000 /\
 D.nx σ (upd H2 a (.ins C dx (F0 f y fs)))
section
variable {X:Cx}{o e value:Expr}{f:Str}{pos pos' tpos:Pos}{ta tv:TE}
theorem b2s(he:PE X e ta)(hb:attributeBase e f X.env (eval e X.env)=eval e X.env):PE X (.Attribute e f pos) (b3T X.K ta f):=by
 intro pins s σ H Q I h;refine b0E hb (thn (he pins s σ H _ I h) λu s1 ⟨x,H1,I1,rx,a,C,dx,fs,v,ex,ea,c,n,l,q⟩=>?_);subst ex;obtain rfl:u=Value.ref a:=rx;exact a4T I1 ea c n l λu' s2 I2 ru=>⟨v,H1,I2,ru,q⟩
theorem b2c(ha:PE X o ta)(hv:PE X value tv)(hs:swapsWith value (some (.Attribute o f pos')) pos.line X.env=pure false):PS X (.Assign [.Attribute o f pos'] value pos) (b4j X.K ta tv f):=by
 intro pins s σ H D I h;refine plainObj_wpAny_Assign_Attribute (thn (hv pins s σ H _ I h) λu s1 ⟨y,H1,I1,ry,q⟩=>thn (ha pins s1 σ H1 _ I1 q) λov s2 ⟨x,H2,I2,rx,a,C,dx,fs,ex,ea,c,n,l,q2⟩=>?_) hs;subst ex;obtain rfl:ov=Value.ref a:=rx;exact a4D I2 ea c n l ry λs3 I3=>⟨σ,_,I3,q2⟩
end
section
variable {X:Cx}{pins:List (Addr×Obj)}{σ:St}{H:Hp}{s:Shared}{A:Around}{E:Value->Shared->Prop}{Q:Value->Shared->Prop}{c:Value}{b:Bool}
inductive TyOf(K:PySem.W.Frag)(H:Hp):V->Value->Prop where
 |non:TyOf K H .non (.type "NoneType")
 |bl (x:Bool):TyOf K H (.bl x) (.type "bool")
 |int (i:Int):TyOf K H (.int i) (.type "int")
 |str (x:Str):TyOf K H (.str x) (.type "str")
 |flt (x:UInt64):TyOf K H (.flt x) (.type "float")
 |lst {a:Addr}{xs:List V}(e:H a=some (.lst xs)):TyOf K H (.ref a) (.type "list")
 |frz {a:Addr}{o:Obj}{xs:List V}(e:H a=some (.frz o (.lst xs))):TyOf K H (.ref a) (.type "list")
 |tup {a:Addr}{xs:List V}(e:H a=some (.tup xs)):TyOf K H (.ref a) (.type "tuple")
 |dK {a:Addr}{kvs:List (Key×V)}(e:H a=some (.dK kvs)):TyOf K H (.ref a) (.type "dict")
 |dT {a:Addr}{kvs:List (List Key×V)}(e:H a=some (.dT kvs)):TyOf K H (.ref a) (.type "dict")
 |ins {a C dx:Addr}{fs:List (Str×V)}(e:H a=some (.ins C dx fs)) (cl:Cls K C) (ha:PySem.W.findIn K (.ref C) "__class__"=some (some (.builtin "object.__class__")))
   (hn:PySem.W.specialIn K (.builtin "object.__class__") "__get__"=some (some (.builtin "getset_descriptor.__get__"))) (htk:PySem.W.takesIn K (.builtin "object.__class__")=some true)
   (hm:PySem.W.mroIn K C (.type "object")=some true):TyOf K H (.ref a) (.ref C)
theorem a6v{x:V}{u t:Value}(I:Inv X pins σ H s)(rx:RelV x u)(ty:TyOf X.K H x t)(e:PySem.W.kitOne X.K t c=some b)(h:∀tk,Q (.bool b) {s with toks:=tk}) :
  wpAny (model X.prog X.w) A (call (.builtin "isinstance") [u,c]) Q E s:=by
 cases ty with
 |non=>cases(show u=Value.none from rx);exact PySem.W.kia_one PySem.W.kitx_none I.kIn True.intro e (λz=>nomatch z) h
 |bl y=>cases(show u=Value.bool y from rx);exact PySem.W.kia_one PySem.W.kitx_bool I.kIn True.intro e (λz=>nomatch z) h
 |int i=>obtain⟨t,q⟩:=(show ∃t,u=Value.int i t from rx);cases q;exact PySem.W.kia_one PySem.W.kitx_int I.kIn True.intro e (λz=>nomatch z) h
 |str y=>obtain⟨t,q⟩:=(show ∃t,u=Value.str y t from rx);cases q;exact PySem.W.kia_one PySem.W.kitx_str I.kIn True.intro e (λz=>nomatch z) h
 |flt y=>obtain⟨t,q⟩:=(show ∃t,u=Value.float y t from rx);cases q;exact PySem.W.kia_one PySem.W.kitx_float I.kIn True.intro e (λz=>nomatch z) h
 |@lst a xs ea =>
  cases(show u=Value.ref a from rx);obtain⟨_,_,n,_,h1⟩:=(show ObjOk X.prog X.w H s.heap a (.lst xs)from I.hok a _ ea);exact PySem.W.kia_one PySem.W.kitx_list I.kIn ⟨_,h1,rfl⟩ e (λz=>nomatch z) h
 |@frz a ob xs ea =>
  cases(show u=Value.ref a from rx);obtain⟨_,_,_,n,_,h1⟩:=(show ObjOk X.prog X.w H s.heap a (.frz ob (.lst xs))from I.hok a _ ea);exact PySem.W.kia_one PySem.W.kitx_list I.kIn ⟨_,h1,rfl⟩ e (λz=>nomatch z) h
 |@tup a xs ea =>
  cases(show u=Value.ref a from rx);obtain⟨_,_,_,p⟩:=(show ObjOk X.prog X.w H s.heap a (.tup xs)from I.hok a _ ea);obtain⟨o,h1,h2,_⟩:=p.tup;exact PySem.W.kia_one PySem.W.kitx_tuple I.kIn ⟨o,h1,h2⟩ e (λz=>nomatch z) h
 |@dK a kvs ea =>
  cases(show u=Value.ref a from rx);obtain⟨_,_,vs,_,p⟩:=(show ObjOk X.prog X.w H s.heap a (.dK kvs)from I.hok a _ ea);obtain⟨o,es,ep,h1,h2,_⟩:=p;exact PySem.W.kia_one PySem.W.kitx_dict I.kIn ⟨o,h1,h2.1⟩ e (λz=>nomatch z) h
 |@dT a kvs ea =>
  cases(show u=Value.ref a from rx);obtain⟨_,_,xs,_,o,es,ep,h1,h2,_⟩:=(show ObjOk X.prog X.w H s.heap a (.dT kvs)from I.hok a _ ea);exact PySem.W.kia_one PySem.W.kitx_dict I.kIn ⟨o,h1,h2.1⟩ e (λz=>nomatch z) h
 |@ins a C dx fs ea cl ha hn htk hm =>
  cases(show u=Value.ref a from rx);obtain⟨mA,O,_⟩:=a0V I.hok ea;obtain⟨od,J,_⟩:=O.look;exact PySem.W.kia_one (PySem.W.kitx_own (cl.get _) cl.hd ha hn htk hm) I.kIn J e (λz=>nomatch z) h
end
structure Room(k:Nat)(A:Around):Prop where
 hd:A.handled=none
 dp:A.depth+3*k+5<recursionLimit
 un:A.units+16*k+200<cLine
theorem Room.mono{j k:Nat}{A:Around}(r:Room k A)(h:j<=k):Room j A:=⟨r.hd,by have:=r.dp;omega,by have:=r.un;omega⟩
theorem Room.deeper{k:Nat}{A:Around}(r:Room (k+1) A)(env:Env):Room k (A.deeper env) :=
 ⟨r.hd,by have:=r.dp;show A.depth+1+3*k+5<_;omega,by have:=r.un;show A.units+3+16*k+200<_;omega⟩
theorem a4O{A:Around}{C:Addr}{us:List Value}{kw:List (Str×Value)}:(A.under (.builtin "type.__call__" ⟨.ref C::us,kw⟩)).depth=A.depth+1:=by
 first|rfl|simp[Around.under,Code.weight,Code.isCreation,Code.isGuard,Code.isCaller,Code.frames,Code.isFrame,guardIds]
theorem a4N{A:Around}{C:Addr}{us:List Value}{kw:List (Str×Value)}:(A.under (.builtin "type.__call__" ⟨.ref C::us,kw⟩)).units=A.units+1:=by
 first|rfl|simp[Around.under,Code.cUnits,Code.frames,Code.isFrame]
theorem Room.make{k:Nat}{A:Around}(r:Room (k+1) A)(C:Addr)(us:List Value)(kw:List (Str×Value)):Room k (A.under (.builtin "type.__call__" ⟨.ref C::us,kw⟩)) :=
 ⟨r.hd,by have:=r.dp;rw[a4O];omega,by have:=r.un;rw[a4N];omega⟩
theorem Room.depth{k:Nat}{A:Around}(r:Room k A):A.depth<recursionLimit:=by have:=r.dp;omega
def a0l:TA:=λ_ H Q=>Q [] H
def a0A(ta:TE)(tr:TA):TA:=λσ H Q=>ta σ H λx H1=>tr σ H1 λxs H2=>Q (x::xs) H2
section
variable {X:Cx}{e:Expr}{es:List Expr}{te:TE}{t:TA}{pos:Pos}
theorem b2w:PA X [] a0l:=λ_ _ _ _ H Q I h=>Calls.spliced_nil ⟨[],H,I,.nil,h⟩
theorem a9W(ha:PE X e te)(hr:PA X es t)(hs:starEach (e::es) X.env=(false,eval e X.env)::starEach es X.env:=by rfl):PA X (e::es) (a0A te t):=by
 intro pos pins s σ H Q I h;rw[hs];show wpAny _ _ (spliced ((false,eval e X.env)::backTo pos (starEach es X.env))) _ _ s;refine Calls.spliced_cons (thn (ha pins s σ H _ I h) λu s1 ⟨x,H1,I1,r1,q1⟩=>?_);exact thn (hr pos pins s1 σ H1 _ I1 q1) λus s2 ⟨xs,H2,I2,r2,q2⟩=>⟨x::xs,H2,I2,.cons r1 r2,q2⟩
def b3N(t:TA):TE:=λσ H Q=>t σ H λxs H1=>xs.length<=sizeLine/\∀p,H1 p=none->Q (.ref p) (upd H1 p (.tup xs))
def a7g(t:TA):TE:=λσ H Q=>t σ H λxs H1=>xs.length<=sizeLine/\∀p,H1 p=none->Q (.ref p) (upd H1 p (.lst xs))
theorem b2l{x1}(h:PA X es t):PE X (.Tuple es x1 pos) (b3N t):=by
 intro pins s σ H Q I hq;refine wpAny_Tuple_spliced (thn (h pos pins s σ H _ I hq) λus s1 ⟨xs,H1,I1,r,z,q⟩=>⟨by rw[<-r.length];exact z,?_⟩);have hf:H1 s1.heap.objs.size=none:=I1.hok.fresh (Nat.le_refl _);refine⟨.ref s1.heap.objs.size,upd H1 s1.heap.objs.size (.tup xs),I1.laid (t':=s1.toks) (λb u e=>Heap.get?_push_of_some _ e) (Nat.le_refl _) ?_,rfl,q _ hf⟩;exact⟨z,us,r,⟨_,Heap.get?_push_size _ rfl,rfl,_,rfl⟩⟩
theorem b2q(h:PA X es t):PE X (.List es pos) (a7g t):=by
 intro pins s σ H Q I hq;refine wpAny_List_spliced (thn (h pos pins s σ H _ I hq) λus s1 ⟨xs,H1,I1,r,z,q⟩=>⟨by rw[<-r.length];exact z,?_⟩);have hf:H1 s1.heap.objs.size=none:=I1.hok.fresh (Nat.le_refl _);refine⟨.ref s1.heap.objs.size,upd H1 s1.heap.objs.size (.lst xs),I1.laid (t':=s1.toks) (λb u e=>Heap.get?_push_of_some _ e) (Nat.le_refl _) ?_,rfl,q _ hf⟩;exact⟨z,us,0,r,Heap.get?_push_size _ rfl⟩
end
abbrev Sp:=List V->Hp->VK->XK->Prop
abbrev CXT:=List Env->Hp->Shared->XK->Value->Shared->Prop
structure Env0(P:Program)(w:World)(K:PySem.W.Frag)(mg:Str->Option Value)(base:Heap)(A:Around)(outer:List Env)(s:Shared)(H:Hp):Prop where
 frames:A.frames=some outer
 mod:Mod K mg base
 bs:∀b o,base.get? b=some o->s.heap.get? b=some o/\H b=none
 bsz:base.objs.size<=s.heap.objs.size
 funs:s.heap.FunFrames base outer
 frf:∀b∈frs outer,H b=none
 hok:HOk P w H s.heap
 bare:AllBare s.gens
def CE(outer:List Env)(P:Program)(w:World)(H:Hp)(s:Shared)(Q:VK)(u:Value)(s':Shared):Prop :=
 ∃v H',s'.os=s.os/\AllBare s'.gens/\Un (frs outer) [] H H' s.heap s'.heap/\HOk P w H' s'.heap/\RelV v u/\Q v H'
def CR(CX:CXT)(outer:List Env)(P:Program)(w:World)(H:Hp)(s:Shared)(Q:VK)(E:XK)(r:Result)(s':Shared):Prop :=
 match r with
 |.ok (.ret u)=>CE outer P w H s Q u s'
 |.ok _=>False
 |.error e=>CX outer H s E e s'
structure FnOk(P:Program)(w:World)(K:PySem.W.Frag)(mg:Str->Option Value)(base:Heap)(CX:CXT)(k:Nat)(f:Addr)(fd:FuncData)(ps:List Str)(sp:Sp):Prop where
 len:∀vs H Q E,sp vs H Q E->vs.length=ps.length
 run:∀(A:Around) (outer:List Env) (s:Shared) (H:Hp) (args:Args) (us:List Value) (vs:List V) (Q:VK) (E:XK),Room k A->Env0 P w K mg base A outer s H->BindsTo s fd args (ps.zip us)->Vals vs us->sp vs H Q E ->
  codeAny (model P w) A (.call (.ref f) args) (CR CX outer P w H s Q E) s
theorem FnOk.imp{P:Program}{w:World}{K:PySem.W.Frag}{mg:Str->Option Value}{base:Heap}{CX:CXT}{k:Nat}{f:Addr}{fd:FuncData}{ps:List Str}{sp sp':Sp}(F:FnOk P w K mg base CX k f fd ps sp)
  (h:∀vs H Q E,sp' vs H Q E->sp vs H Q E):FnOk P w K mg base CX k f fd ps sp' :=
 ⟨λvs H Q E q=>F.len vs H Q E (h _ _ _ _ q),λA outer s H args us vs Q E hr he hb hv hs=>F.run A outer s H args us vs Q E hr he hb hv (h _ _ _ _ hs)⟩
theorem Env0.make{P:Program}{w:World}{K:PySem.W.Frag}{mg:Str->Option Value}{base:Heap}{A:Around}{outer:List Env}{s:Shared}{H:Hp}(e:Env0 P w K mg base A outer s H)(C:Addr)(us:List Value)(kw:List (Str×Value)) :
  Env0 P w K mg base (A.under (.builtin "type.__call__" ⟨.ref C::us,kw⟩)) outer s H:=⟨by first|exact e.frames | (simpa[Around.under,Code.envs,Code.isFrame,pushEnvs]using e.frames),e.mod,e.bs,e.bsz,e.funs,e.frf,e.hok,e.bare⟩
section
variable {X:Cx}{pins:List (Addr×Obj)}{σ:St}{H:Hp}{s s':Shared}
theorem Inv.env0(I:Inv X pins σ H s):Env0 X.prog X.w X.K X.mg X.base X.A X.stack s H :=
 ⟨I.ok.frames,I.ok.mod,I.bs,Nat.le_trans I.ok.bsz I.sz,I.stack,I.stkFree,I.hok,I.bare⟩
theorem Inv.after{Q:VK}{u:Value}(I:Inv X pins σ H s)(h:CE X.stack X.prog X.w H s Q u s'):EP X pins σ Q u s':=by
 obtain⟨v,H',os,bare,un,hok,r,q⟩:=h;obtain⟨hh,g,d,t,os'⟩:=s';obtain rfl:os'=s.os:=os;exact⟨v,H',I.call (h':=hh) (g':=g) (d':=d) (t':=t) (ch:=[]) un hok bare (λb z=>absurd z (by simp)),r,q⟩
end
def a5k(sp:Sp)(dvs:List V)(E:XK)(t:TA):TE:=λσ H Q=>t σ H λvs H1=>sp (vs++dvs) H1 Q E
def a5i(C:Addr)(m:Str)(sp:Sp)(dvs:List V)(E:XK)(ta:TE)(t:TA):TE:=λσ H Q=>ta σ H λx H1=>∃a dx fs,x=.ref a/\H1 a=some (.ins C dx fs)/\fs.lookup m=none /\
 t σ H1 λvs H2=>sp (x::(vs++dvs)) H2 Q E
def b0L(C:Addr)(sp:Sp)(dvs:List V)(E:XK)(t:TA):TE:=λσ H Q=>t σ H λvs H1=>∀x dx,H1 x=none->H1 dx=none->dx≠x ->
 sp (.ref x::(vs++dvs)) (upd (upd H1 dx (.own x)) x (.ins C dx [])) (λv H2=>v=.non/\Q (.ref x) H2) E
def Binds(K:PySem.W.Frag)(fd:FuncData)(ps:List Str)(ds:List Value):Prop :=
 ∀(s:Shared) (us:List Value),K.In s.heap->(us++ds).length=ps.length->BindsTo s fd ⟨us,[]⟩ (ps.zip (us++ds))
theorem Binds.all{K:PySem.W.Frag}{fd:FuncData}{ps:List Str}(h:∀us:List Value,us.length=ps.length->bindArgs fd ⟨us,[]⟩=pure (ps.zip us)):Binds K fd ps []:=λs us _ hl=>by
 rw[List.append_nil]at hl⊢;exact .of_eq (h us hl)
def X9(CX:CXT)(X:Cx)(E:XK):Prop:=∀(pins:List (Addr×Obj)) (σ:St) (H:Hp) (s:Shared) (e:Value) (s':Shared),Inv X pins σ H s->CX X.stack H s E e s'->X.xe e s'
section
variable {X:Cx}{CX:CXT}{k:Nat}{f C:Addr}{fd:FuncData}{ps:List Str}{sp:Sp}{dvs:List V}{ds:List Value}{E:XK}{x m:Str}{p pos apos:Pos}{e o:Expr}{es:List Expr}{ta:TE}{t:TA}
theorem a4H{pins:List (Addr×Obj)}{σ:St}{H:Hp}{s:Shared}{Q:VK}{us:List Value}{vs:List V}(F:FnOk X.prog X.w X.K X.mg X.base CX k f fd ps sp)(hr:Room k X.A)(hb:Binds X.K fd ps ds)(hd:Vals dvs ds)(hx:X9 CX X E)
  (I:Inv X pins σ H s) (r:Vals vs us) (h:sp (vs++dvs) H Q E):wpAny (model X.prog X.w) X.A (call (.ref f) us) (EP X pins σ Q) X.xe s:=by
 have r2:Vals (vs++dvs) (us++ds):=r.append hd;have hl:(us++ds).length=ps.length:=by rw[<-r2.length];exact F.len _ _ _ _ h
 refine wpAny_call (codeAny_mono (F.run X.A X.stack s H ⟨us,[]⟩ (us++ds) (vs++dvs) Q E hr I.env0 (hb s us I.kIn hl) r2 h) λr s' hq=>?_);cases r with
 |error e=>exact hx pins σ H s e s' I hq
 |ok fl =>
  cases fl with
  |ret u=>exact I.after hq
  |next=>exact False.elim hq
  |brk=>exact False.elim hq
  |cont=>exact False.elim hq
theorem a9U(F:FnOk X.prog X.w X.K X.mg X.base CX k f fd ps sp)(hr:Room k X.A)(hg:Gl X x)(hm:X.mg x=some (.ref f))(hk:PySem.W.keepIn X.K (.ref f)=true)(hb:Binds X.K fd ps ds)(hd:Vals dvs ds)(hx:X9 CX X E)
  (ha:PA X (e::es) t) (hdb:(x==("__debug__" : Str))=false:=by decide) (he:starEach (e::es) X.env=(false,eval e X.env)::starEach es X.env:=by rfl) (hpl:(backTo pos (starEach es X.env)).any (·.1)=false:=by rfl) :
  PE X (.Call (.Name x p) (e::es) [] pos) (a5k sp dvs E t):=by
 intro pins s σ H Q I h;refine wpAny_Call_Name_kw (a3d I hg hm ?_ hdb);refine PySem.W.callWith_K (h₀:=X.base) I.ok.mod.kin hk (thn (ha pos pins s σ H _ I h) λus s1 ⟨vs,H1,I1,r,q⟩=>⟨I1.kIn,?_⟩) he hpl;exact a4H F hr hb hd hx I1 r q
theorem a9P{pl:Sem Bool}(he:PE X o ta)(c:Cls X.K C)(hm:Meth X.K C m f)(F:FnOk X.prog X.w X.K X.mg X.base CX k f fd ps sp)(hr:Room k X.A)(hb:Binds X.K fd ps ds)(hd:Vals dvs ds)(hx:X9 CX X E)(ha:PA X (e::es) t)
  (hst:starEach (e::es) X.env=(false,eval e X.env)::starEach es X.env:=by rfl) (hpl:(backTo pos (starEach es X.env)).any (·.1)=false:=by rfl)
  (ht:eval (.Call (.Attribute o m apos) (e::es) [] pos) X.env=(do
   let ov <-eval o X.env
   standAt apos.atName
   let (f,first) <-holding [ov] (getMethod ov m pl)
   callWith pos f first (backTo pos (starEach (e::es) X.env)) (backToKw pos (keywordEach [] X.env))):=by rfl) :
  PE X (.Call (.Attribute o m apos) (e::es) [] pos) (a5i C m sp dvs E ta t):=by
 intro pins s σ H Q I h;refine PySem.W.methodCall_KW (pl:=pl) (thn (he pins s σ H _ I h) λu s1 ⟨x,H1,I1,rx,a,dx,fs,ex,ea,l,q⟩=>?_) ht;subst ex;obtain rfl:u=Value.ref a:=rx;refine a1B I1 ea c hm l ?_;refine PySem.W.callWith_K (first:=[.ref a]) (h₀:=X.base) I.ok.mod.kin hm.kp (thn (ha pos pins s1 σ H1 _ I1 q) λus s2 ⟨vs,H2,I2,r,q2⟩=>⟨I2.kIn,?_⟩) hst hpl;exact a4H (us:=.ref a::us) (vs:=.ref a::vs) F hr hb hd hx I2 (.cons rfl r) q2
theorem a7S{pl:Sem Bool}(he:PE X o ta)(c:Cls X.K C)(hm:Meth X.K C m f)(F:FnOk X.prog X.w X.K X.mg X.base CX k f fd ps sp)(hr:Room k X.A)(hb:Binds X.K fd ps ds)(hd:Vals dvs ds)(hx:X9 CX X E)
  (ht:eval (.Call (.Attribute o m apos) [] [] pos) X.env=(do
   let ov <-eval o X.env
   standAt apos.atName
   let (f,first) <-holding [ov] (getMethod ov m pl)
   callWith pos f first (backTo pos (starEach [] X.env)) (backToKw pos (keywordEach [] X.env))):=by rfl) :
  PE X (.Call (.Attribute o m apos) [] [] pos) (a5i C m sp dvs E ta a0l):=by
 intro pins s σ H Q I h;refine PySem.W.methodCall_KW (pl:=pl) (thn (he pins s σ H _ I h) λu s1 ⟨x,H1,I1,rx,a,dx,fs,ex,ea,l,q⟩=>?_) ht;subst ex;obtain rfl:u=Value.ref a:=rx;refine a1B I1 ea c hm l ?_;exact PySem.W.callWith_K0 (first:=[.ref a]) I1.kIn hm.kp (a4H (us:=[.ref a]) (vs:=[.ref a]) F hr hb hd hx I1 (.cons rfl .nil) q)
structure Mk(K:PySem.W.Frag)(C f:Addr):Prop where
 makes:PySem.W.makesIn K C=true
 init:PySem.W.findIn K (.ref C) "__init__"=some (some (.ref f))
 fn:PySem.W.isFn K (.ref f)=true
 kp:PySem.W.keepIn K (.ref C)=true
theorem a7r{pins:List (Addr×Obj)}{σ:St}{H:Hp}{s:Shared}{Q:VK}{us:List Value}{vs:List V}(M:Mk X.K C f)(F:FnOk X.prog X.w X.K X.mg X.base CX k f fd ps sp)(hr:Room (k+1) X.A)(hb:Binds X.K fd ps ds)(hd:Vals dvs ds)
  (hx:X9 CX X E) (I:Inv X pins σ H s) (r:Vals vs us)
  (h:∀x dx,H x=none->H dx=none->dx≠x->sp (.ref x::(vs++dvs)) (upd (upd H dx (.own x)) x (.ins C dx [])) (λv H2=>v=.non/\Q (.ref x) H2) E) :
  wpAny (model X.prog X.w) X.A (call (.ref C) us) (EP X pins σ Q) X.xe s:=by
 have hq:=h (s.heap.objs.size+1) s.heap.objs.size (I.hok.fresh (Nat.le_succ _)) (I.hok.fresh (Nat.le_refl _)) (Nat.ne_of_lt (Nat.lt_succ_self _));have I2:=Inv.made (C:=C) I;have r2:Vals (V.ref (s.heap.objs.size+1)::(vs++dvs)) (Value.ref (s.heap.objs.size+1)::(us++ds)):=.cons rfl (r.append hd);have hl:(Value.ref (s.heap.objs.size+1)::us++ds).length=ps.length:=by
  have e:=r2.length;rw[F.len _ _ _ _ hq]at e;exact e.symm
 refine wpAny_call (a8s (f:=f) I.kIn M.makes M.init (beq_iff_eq.mp M.fn) (codeAny_mono (F.run _ X.stack _ _ ⟨Value.ref (s.heap.objs.size+1)::us,[]⟩ (Value.ref (s.heap.objs.size+1)::(us++ds)) _ _ E (hr.make C us [])
  (I2.env0.make C us []) (hb _ (Value.ref (s.heap.objs.size+1)::us) I2.kIn hl) r2 hq) λr s' hq'=>?_))
 cases r with
 |error e=>exact hx pins σ _ _ e s' I2 hq'
 |ok fl =>
  cases fl with
  |ret u =>
   obtain⟨v,H',I3,rv,ev,q3⟩:=I2.after hq';subst ev;exact⟨rv,⟨V.ref (s.heap.objs.size+1),H',I3,rfl,q3⟩⟩
  |next=>exact False.elim hq'
  |brk=>exact False.elim hq'
  |cont=>exact False.elim hq'
theorem a7T(M:Mk X.K C f)(F:FnOk X.prog X.w X.K X.mg X.base CX k f fd ps sp)(hr:Room (k+1) X.A)(hg:Gl X x)(hm:X.mg x=some (.ref C))(hb:Binds X.K fd ps ds)(hd:Vals dvs ds)(hx:X9 CX X E)
  (hdb:(x==("__debug__" : Str))=false:=by decide):PE X (.Call (.Name x p) [] [] pos) (b0L C sp dvs E a0l):=by
 intro pins s σ H Q I h;refine wpAny_Call_Name_kw (a3d I hg hm ?_ hdb);exact PySem.W.callWith_K0 I.kIn M.kp (a7r (us:=[]) M F hr hb hd hx I .nil h)
end
section
variable {X:Cx}{CX:CXT}{k:Nat}{f C:Addr}{fd:FuncData}{ps ks:List Str}{sp:Sp}{E:XK}{x m:Str}{p pos apos kpos:Pos}{e o:Expr}{es:List Expr}{kws:List Keyword}{te ta:TE}{t tk:TA}{nm:Option Str}
variable {g:List Value->List Value->List Value}{gV:List V->List V->List V}
end
structure FnScope(N P:List Str)(sc:Scope):Prop where
 kind:sc.kind=.function
 co:sc.isCoroutine=false
 gen:sc.isGenerator=false
 nd:N.Nodup
 pre:N.take P.length=P
 par:∀x∈P,sc.names.lookup x=some .local∨sc.names.lookup x=some .cell
 nofree:∀y∈sc.names,y.2≠.free
theorem a2C{kindOf:Str->Option NameKind}{x:Str}:∀{binds:List (Str×Value)}{m:Str->Option Value},(∀v,(x,v)∉binds)->bindL kindOf binds m x=m x
 |[],_,_=>rfl
 |(n,v)::r,m,h=>by
  unfold bindL;rw[a2C λw hw=>h w (List.mem_cons_of_mem _ hw)];split
  .have:x≠n:=by rintro rfl;exact h v List.mem_cons_self
   simp[this]
  .rfl
theorem a2E{kindOf:Str->Option NameKind}{x:Str}:∀{binds:List (Str×Value)}{m:Str->Option Value},(∀v,(x,v)∉binds)->bindC kindOf binds m x=m x
 |[],_,_=>rfl
 |(n,v)::r,m,h=>by
  unfold bindC;rw[a2E λw hw=>h w (List.mem_cons_of_mem _ hw)];split
  .rfl
  .have:x≠n:=by rintro rfl;exact h v List.mem_cons_self
   simp[this]
theorem a2D{kindOf:Str->Option NameKind}{x:Str}{v:Value}:∀{P:List Str}{vs:List Value}{i:Nat}{m:Str->Option Value},P.Nodup->P[i]?=some x->vs[i]?=some v->kindOf x=some .local ->
  bindL kindOf (P.zip vs) m x=some v
 |[],_,_,_,_,h,_,_=>by simp at h
 |_::_,[],_,_,_,_,h,_=>by simp at h
 |p::P,w::vs,0,m,nd,h1,h2,hk=>by
  simp at h1 h2;subst h1;subst h2;show bindL kindOf ((p,w)::P.zip vs) m p=_;unfold bindL;rw[a2C λv hv=>(List.nodup_cons.mp nd).1 (List.of_mem_zip hv).1,if_pos hk];simp
 |p::P,w::vs,i+1,m,nd,h1,h2,hk=>by
  show bindL kindOf ((p,w)::P.zip vs) m x=_;unfold bindL;exact a2D (i:=i) (List.nodup_cons.mp nd).2 (by simpa using h1) (by simpa using h2) hk
theorem a2F{kindOf:Str->Option NameKind}{x:Str}{v:Value}:∀{P:List Str}{vs:List Value}{i:Nat}{m:Str->Option Value},P.Nodup->P[i]?=some x->vs[i]?=some v->kindOf x≠some .local ->
  bindC kindOf (P.zip vs) m x=some v
 |[],_,_,_,_,h,_,_=>by simp at h
 |_::_,[],_,_,_,_,h,_=>by simp at h
 |p::P,w::vs,0,m,nd,h1,h2,hk=>by
  simp at h1 h2;subst h1;subst h2;show bindC kindOf ((p,w)::P.zip vs) m p=_;unfold bindC;rw[a2E λv hv=>(List.nodup_cons.mp nd).1 (List.of_mem_zip hv).1,if_neg hk];simp
 |p::P,w::vs,i+1,m,nd,h1,h2,hk=>by
  show bindC kindOf ((p,w)::P.zip vs) m x=_;unfold bindC;exact a2F (i:=i) (List.nodup_cons.mp nd).2 (by simpa using h1) (by simpa using h2) hk
noncomputable def start(N:List Str)(vs:List V):St:=vs.map some++List.replicate (N.length-vs.length) none
noncomputable def a2c(CX:CXT)(P:Program)(w:World)(K:PySem.W.Frag)(mg:Str->Option Value)(base:Heap)(N:List Str)(qual:Str)(scope:Scope)(f:Addr)(cd:Value)(A:Around)(outer:List Env)(s:Shared)(H:Hp)(E:XK):Cx where
 prog:=P
 w:=w
 K:=K
 mg:=mg
 base:=base
 A:=A.deeper (envOfC qual scope s.heap.objs.size f cd)
 N:=N
 s₀:=s
 H₀:=H
 env:=envOfC qual scope s.heap.objs.size f cd
 outer:=outer
 stack:=envOfC qual scope s.heap.objs.size f cd::outer
 ex:=[]
 calm:=true
 fn:=λ_=>true
 pn:=[]
 xe:=λe s'=>wpAny (model P w) (A.deeper (envOfC qual scope s.heap.objs.size f cd)) (leaving (envOfC qual scope s.heap.objs.size f cd) e) (λ_ s''=>CX outer H s E e s'') (λe' s''=>CX outer H s E e' s'') s'
theorem a4t{sc:Scope}{n:Nat}{x:Str}(h:sc.names.lookup x=some .cell):∃c,(cellsFrom n sc.names []).lookup x=some c:=by
 have q:=PySem.W.cellsFrom_some sc.names n [] (.inl h);exact Option.isSome_iff_exists.mp q
theorem a6w{CX:CXT}{P:Program}{w:World}{K:PySem.W.Frag}{mg:Str->Option Value}{base:Heap}{N ps:List Str}{qual:Str}{scope:Scope}{f:Addr}{cd:Value}{A:Around}{outer:List Env}{s s1:Shared}{H:Hp}{E:XK}{us:List Value}{vs:List V}
  (S:FnScope N ps scope) (hd:A.handled=none) (e0:Env0 P w K mg base A outer s H) (hl:vs.length=ps.length) (r:Vals vs us)
  (x:InCallC s s.heap.objs.size (bindL (envOfC qual scope s.heap.objs.size f cd).kindOf (ps.zip us) λ_=>none) (cellsFrom (s.heap.objs.size+1) scope.names []) (bindC (envOfC qual scope s.heap.objs.size f cd).kindOf (ps.zip us) λ_=>none) s1) :
  Inv (a2c CX P w K mg base N qual scope f cd A outer s H E) [] (start N vs) H s1:=by
 have hpl:ps.length<=N.length:=by have:=congrArg List.length S.pre;rw[List.length_take]at this;omega
 obtain⟨h1,tk,rfl,hk⟩:=x.done;have noA:∀b:Addr,b∉(a2c CX P w K mg base N qual scope f cd A outer s H E).ex:=λb z=>absurd (show b∈([]:List Addr)from z) (by simp);refine⟨⟨e0.mod,S.kind,rfl,rfl,Nat.le_refl _,λy z c h1 h2=>?_,λy hy=>?_,λy c _ h=>?_,λ_=>hd,Around.frames_deeper e0.frames,.inr ⟨rfl,rfl⟩,λb z=>absurd z (noA b),e0.bs,e0.bsz,λb _ _=>noA b,λb z=>absurd z (noA b),e0.funs,e0.frf⟩,
  rfl,e0.bare,Un.kept hk,⟨_,x.toInCall.ns,λi y v h1 h2 h3=>?_⟩,λy c h=>⟨_,x.cell y c h⟩,e0.hok.fresh (Nat.le_refl _),λy c h=>?_,λp hp=>absurd (show p∈([]:List (Addr×Obj))from hp) (by simp),e0.hok.kept hk,?_⟩
 .exact name_of_addr x.apart (PySem.mem_of_lookup h1) (PySem.mem_of_lookup h2)
 .have hy:scope.names.lookup y=some .cell∨scope.names.lookup y=some .free:=hy;rcases hy with hy|hy
  .exact a4t hy
  .exact absurd rfl (S.nofree _ (PySem.mem_of_lookup hy))
 .exact Nat.le_of_lt (x.above y c (PySem.mem_of_lookup h))
 .have hi:i<vs.length:=by
   unfold start at h2;by_cases hi:i<vs.length
   .exact hi
   .rw[List.getElem?_append_right (by simpa using hi)]at h2;rw[List.getElem?_replicate]at h2;split at h2<;>cases h2
  have ha:vs[i]?=some v:=by
   unfold start at h2;rw[List.getElem?_append_left (by simpa using hi),List.getElem?_map]at h2;cases e:vs[i]? with
   |none=>rw[e]at h2;cases h2
   |some a=>rw[e]at h2;cases h2;rfl
  obtain⟨u,hu,rv⟩:=r.get ha;have hp:ps[i]?=some y:=by
   rw[<-S.pre,List.getElem?_take_of_lt (by omega)];exact h1
  have ndP:ps.Nodup:=by rw[<-S.pre];exact S.nd.sublist (List.take_sublist _ _)
  refine⟨u,rv,?_⟩;rcases S.par y (List.mem_of_getElem? hp)with k|k
  .exact .inl ⟨k,a2D ndP hp hu k⟩
  .obtain⟨c,e⟩:=a4t (n:=s.heap.objs.size+1) k;refine .inr ⟨.inl k,c,e,?_⟩;have q:=x.cell y c e;rw[a2F ndP hp hu (by show scope.names.lookup y≠_;rw[k];decide)]at q;exact q
 .exact e0.hok.fresh (Nat.le_of_lt (x.above y c (PySem.mem_of_lookup h)))
 .unfold start;show _=N.length;rw[List.length_append,List.length_map,List.length_replicate];omega
theorem b4M{CX:CXT}{P:Program}{w:World}{K:PySem.W.Frag}{mg:Str->Option Value}{base:Heap}{k:Nat}{f:Addr}{name qual:Str}{params:Arguments}{body:List Stmt}{scope:Scope}{dV kV doc pm cdv ct oc:Value}{an od:Option Addr}
  {osl:Array (Option Value)}{N ps:List Str}{sp:Sp}(lk:K.lookup f=some ⟨oc,od,.func (PySem.W.fnOf name qual params body scope dV kV doc pm an cdv ct),osl⟩) (hcd:PySem.W.codeIn K cdv qual=true) (S:FnScope N ps scope)
  (len:∀vs H Q E,sp vs H Q E->vs.length=ps.length)
  (hbody:∀(A:Around) (outer:List Env) (s:Shared) (H:Hp) (vs:List V) (Q:VK) (E:XK),Room k (A.deeper (envOfC qual scope s.heap.objs.size f cdv))->sp vs H Q E ->
   ∃t,PSs (a2c CX P w K mg base N qual scope f cdv A outer s H E) body t/\t {nx:=λ_ H'=>Q .non H',rt:=Q} (start N vs) H) :
  FnOk P w K mg base CX (k+1) f (PySem.W.fnOf name qual params body scope dV kV doc pm an cdv ct) ps sp:=by
 refine⟨len,λA outer s H args us vs Q E hr e0 hb r hsp=>?_⟩;have hl:=len _ _ _ _ hsp;have KX:K.In s.heap:=e0.mod.kin.keeps λb o e=>(e0.bs b o e).1;have lim:s.heap.NoLimit:=e0.mod.nolimit.keeps λb o e=>(e0.bs b o e).1;have hkind:∀y∈ps.zip us,scope.names.lookup y.1=some .local∨(scope.names.lookup y.1=some .cell/\((cellsFrom (s.heap.objs.size+1) scope.names []).lookup y.1).isSome=true):=λ⟨n,v⟩ hy=>by
  rcases S.par n (List.of_mem_zip hy).1 with q|q
  .exact .inl q
  .exact .inr ⟨q,PySem.W.cellsFrom_some _ _ _ (.inl q)⟩
 refine codeAny_call_function hr.depth (KX _ _ lk) rfl S.co S.gen rfl (PySem.W.codeRec_of KX hcd) (hb _ _ _ _ ?_);refine wpAny_newFunctionEnv_cells S.kind hkind λenv he s1 x=>?_;subst he;refine⟨lim.keeps x.toInCall.keep,codeAny_func ?_⟩;obtain⟨t,ht,hq⟩:=hbody A outer s H vs Q E (hr.deeper _) hsp;have I:Inv (a2c CX P w K mg base N qual scope f cdv A outer s H E) [] (start N vs) H s1:=a6w S hr.hd e0 hl r x;refine wpAny_mono (ht [] s1 (start N vs) H _ I hq) (λfl s' hs=>?_) λe s' hs=>hs;have fin:∀{σ':St}{H':Hp}{v:V}{u:Value},Inv (a2c CX P w K mg base N qual scope f cdv A outer s H E) [] σ' H' s'->RelV v u->Q v H'->CE outer P w H s Q u s' :=
  λ{σ' H' v u} J rv q=>⟨v,H',J.os,J.bare,J.base,J.hok,rv,q⟩
 cases fl with
 |ret u =>
  obtain⟨v,σ',H',J,rv,q⟩:=hs;exact fin J rv q
 |next =>
  obtain⟨σ',H',J,q⟩:=hs;exact fin (v:=V.non) (u:=Value.none) J rfl q
 |brk =>
  obtain⟨_,_,_,q⟩:=hs;exact False.elim q
 |cont =>
  obtain⟨_,_,_,q⟩:=hs;exact False.elim q
section
variable {X:Cx}{x:Str}{p pos:Pos}{e:Expr}{es:List Expr}{t:TA}{id T:String}{r:List V->Hp->VK->Prop}
def tCB(r:List V->Hp->VK->Prop)(t:TA):TE:=λσ H Q=>t σ H λvs H1=>r vs H1 Q
theorem L4(hc:E9 X (.builtin id) r)(hg:Gl X x)(hm:X.mg x=none)(hv:bootBuiltins x=some (.builtin id))(ha:PA X (e::es) t)(hn:x≠"__name__":=by decide)(hdb:(x==("__debug__" : Str))=false:=by decide)
  (he:starEach (e::es) X.env=(false,eval e X.env)::starEach es X.env:=by rfl) (hpl:(backTo pos (starEach es X.env)).any (·.1)=false:=by rfl):PE X (.Call (.Name x p) (e::es) [] pos) (tCB r t):=by
 intro pins s σ H Q I h;refine wpAny_Call_Name_kw (a0q I hg hm hv ?_ hn hdb);exact PyProof.Rows.callWith_builtin1 (thn (ha pos pins s σ H _ I h) λus s1 ⟨vs,H1,I1,r1,q1⟩=>hc pins s1 σ H1 vs us Q I1 r1 q1) he hpl
theorem N6(hc:E9 X (.type T) r)(hg:Gl X x)(hm:X.mg x=none)(hv:bootBuiltins x=some (.type T))(ha:PA X (e::es) t)(hn:x≠"__name__":=by decide)(hdb:(x==("__debug__" : Str))=false:=by decide)
  (he:starEach (e::es) X.env=(false,eval e X.env)::starEach es X.env:=by rfl) (hpl:(backTo pos (starEach es X.env)).any (·.1)=false:=by rfl):PE X (.Call (.Name x p) (e::es) [] pos) (tCB r t):=by
 intro pins s σ H Q I h;refine wpAny_Call_Name_kw (a0q I hg hm hv ?_ hn hdb);exact PyProof.Rows.callWith_type1 (thn (ha pos pins s σ H _ I h) λus s1 ⟨vs,H1,I1,r1,q1⟩=>hc pins s1 σ H1 vs us Q I1 r1 q1) he hpl
end
end L2
namespace HT
open PySem PyProof.Rows
section
open PySem.SeqAt
open PySem.AutoSeq1 (wpAny_loadPart')
open PySem.MeetsSeq PySem.MeetsSeq2 PySem.MeetsSeq3
end
section
variable {prog:Program}{w:World}{A:Around}{E:Value->Shared->Prop}{s:Shared}
noncomputable def sIx(n d:Nat):Option Int->Nat
 |none=>d
 |some v=>if v<0 then(v+(n:Int)).toNat else min v.toNat n
theorem sIx_none(n d:Nat):sIx n d none=d:=rfl
theorem sIx_nat(n d k:Nat):sIx n d (some (k:Int))=min k n:=by
 show(if (k:Int)<0 then((k:Int)+(n:Int)).toNat else min (k:Int).toNat n)=min k n;rw[if_neg (by omega),Int.toNat_natCast]
end
end HT
namespace L2
open PySem PySem.Spec PyProof.Rows
abbrev TO:=St->Hp->(Option Int->Hp->Prop)->Prop
def PO(X:Cx)(e:Option Expr)(t:TO):Prop :=
 ∀(pins:List (Addr×Obj)) (s:Shared) (σ:St) (H:Hp) (Q:Option Int->Hp->Prop),Inv X pins σ H s->t σ H Q ->
  wpAny (model X.prog X.w) X.A (evalPart e X.env) (λu s'=>∃o H',Inv X pins σ H' s'/\IsPart u o/\Q o H') X.xe s
def M5:TO:=λ_ H Q=>Q none H
def b0J(t:TE):TO:=λσ H Q=>t σ H λx H1=>∃i,x=.int i/\Q (some i) H1
section
variable {X:Cx}{e:Expr}{te:TE}{lo hi:Option Expr}{tl th:TO}{pos p2:Pos}
theorem a9B:PO X none M5:=by
 intro pins s σ H Q I h;rw[evalPart_none];exact wpAny_pure ⟨none,H,I,.none,h⟩
theorem a9A(h:PE X e te):PO X (some e) (b0J te):=by
 intro pins s σ H Q I hw;rw[evalPart_some];refine thn (h pins s σ H _ I hw) λu s1 ⟨x,H1,I1,r1,q1⟩=>?_;obtain⟨i,rfl,q⟩:=q1;obtain⟨t,rfl⟩:=r1;exact⟨some i,H1,I1,.int i t,q⟩
def SlR(X:Cx)(r:V->Option Int->Option Int->Hp->VK->Prop):Prop :=
 ∀(pins:List (Addr×Obj)) (s:Shared) (σ:St) (H:Hp) (x:V) (v vl vu:Value) (lo hi:Option Int) (sl:Addr) (Q:VK),Inv X pins σ H s->RelV x v->s.heap.IsSliceOf sl vl vu .none->IsPart vl lo->IsPart vu hi->r x lo hi H Q ->
  ∃T id,typeLookup (.type T) "__getitem__"=pure (some (.builtin id))/\s.TypeIs v T/\wpAny (model X.prog X.w) X.A (getItem v (.ref sl)) (EP X pins σ Q) X.xe s
def tSl(r:V->Option Int->Option Int->Hp->VK->Prop)(te:TE)(tl th:TO):TE:=λσ H Q=>te σ H λx H1=>tl σ H1 λl H2=>th σ H2 λu H3=>r x l u H3 Q
theorem a7R{r:V->Option Int->Option Int->Hp->VK->Prop}(hr:SlR X r)(he:PE X e te)(hl:PO X lo tl)(hu:PO X hi th):PE X (.Subscript e (.Slice lo hi none p2) pos) (tSl r te tl th):=by
 intro pins s σ H Q I h;refine Subscript_ (thn (he pins s σ H _ I h) λv s1 ⟨x,H1,I1,r1,q1⟩=>?_);refine wpAny_Slice (thn (hl pins s1 σ H1 _ I1 q1) λvl s2 ⟨l,H2,I2,pl,q2⟩=>thn (hu pins s2 σ H2 _ I2 q2) λvu s3 ⟨u,H3,I3,pu,q3⟩=>?_);rw[evalPart_none];refine wpAny_pure ?_;have I4:Inv X pins σ H3 {s3 with heap:=s3.heap.push {cls:=.type "slice",data:=.fields #[vl,vu,.none]}}:=I3.kept (t':=s3.toks) λb ob q=>Heap.get?_push_of_some _ q;obtain⟨T,id,hT,ht,hg⟩:=hr pins {s3 with heap:=s3.heap.push {cls:=.type "slice",data:=.fields #[vl,vu,.none]}} σ H3 x v vl vu l u s3.heap.objs.size Q I4 r1 (Heap.IsSliceOf.new ..) pl pu q3;show wpAny (model X.prog X.w) X.A (subscriptTail e (.Slice lo hi none p2) v (.ref s3.heap.objs.size)) (EP X pins σ Q) X.xe {s3 with heap:=s3.heap.push {cls:=.type "slice",data:=.fields #[vl,vu,.none]}};exact tail_any (ops:=[.ref s3.heap.objs.size,v]) ht hT hg (by with_unfolding_all rfl)
noncomputable def W9(xs:List V)(lo hi:Option Int):List V:=(xs.drop (HT.sIx xs.length 0 lo)).take (HT.sIx xs.length xs.length hi-HT.sIx xs.length 0 lo)
theorem a4q(xs:List V)(lo hi:Option Int):(W9 xs lo hi).length<=xs.length:=by
 unfold W9;rw[List.length_take,List.length_drop];omega
end
noncomputable def ixN(n:Nat)(i:Int):Option Nat:=if 0<=i then(if i<n then some i.toNat else none)else if -(n:Int)<=i then some (i+n).toNat else none
noncomputable def atI{α:Type}(xs:List α)(i:Int):Option α:=(ixN xs.length i).bind λj=>xs[j]?
theorem a5D{n:Nat}{i:Int}{j:Nat}(h:ixN n i=some j):seqIndex? i n=some j/\j<n /\ -(n:Int)<=i/\i<n:=by
 unfold ixN at h;by_cases h0:0<=i
 .rw[if_pos h0]at h;by_cases h1:i<n
  .rw[if_pos h1]at h;have e:i.toNat=j:=Option.some.inj h;exact⟨by rw[seqIndex_of h0 h1,e],by omega,by omega,h1⟩
  .rw[if_neg h1]at h;cases h
 .rw[if_neg h0]at h;by_cases h1 : -(n:Int)<=i
  .rw[if_pos h1]at h;have e:(i+n).toNat=j:=Option.some.inj h;exact⟨by rw[seqIndex_neg (by omega) h1,e],by omega,h1,by omega⟩
  .rw[if_neg h1]at h;cases h
theorem a0X{α:Type}{xs:List α}{i:Int}{v:α}(h:atI xs i=some v):∃j,seqIndex? i xs.length=some j/\xs[j]?=some v/\j<xs.length /\ -(xs.length:Int)<=i/\i<xs.length:=by
 unfold atI at h;cases e:ixN xs.length i with
 |none=>rw[e]at h;cases h
 |some j =>
  rw[e]at h;obtain⟨h1,h2,h3,h4⟩:=a5D e;exact⟨j,h1,h,h2,h3,h4⟩
theorem L3{α:Type}{xs:List α}{j:Nat}{v:α}(h:xs[j]?=some v):atI xs (j:Int)=some v:=by
 have hj:j<xs.length:=(List.getElem?_eq_some_iff.mp h).1;have e:ixN xs.length (j:Int)=some j:=by
  unfold ixN;rw[if_pos (by omega),if_pos (by omega)];simp
 unfold atI;rw[e];exact h
theorem a1Q{α:Type}(xs:List α)(v:α):atI (xs++[v]) (-1)=some v:=by
 have hl:(xs++[v]).length=xs.length+1:=by simp
 have e:ixN (xs++[v]).length (-1)=some xs.length:=by
  unfold ixN;rw[hl,if_neg (by decide),if_pos (by omega)];congr 1;omega
 unfold atI;rw[e];show(xs++[v])[xs.length]?=some v;simp
def a0Y(b:Expr):Prop:=∀o i,subscripted b false o i=operate [o,i] (getItem o i)
def IxR(X:Cx)(r:R2):Prop :=
 ∀(value slice:Expr) (pins:List (Addr×Obj)) (s:Shared) (σ:St) (H:Hp) (x y:V) (v u:Value) (Q:VK),Inv X pins σ H s->RelV x v->RelV y u->r x y H Q ->
  subscripted slice false v u=operate [v,u] (getItem v u)->wpAny (model X.prog X.w) X.A (subscriptTail value slice v u) (EP X pins σ Q) X.xe s
def MtR(X:Cx)(id:String)(r:V->List V->Hp->VK->Prop):Prop :=
 ∀(pins:List (Addr×Obj)) (s:Shared) (σ:St) (H:Hp) (x:V) (xs:List V) (v:Value) (us:List Value) (Q:VK),Inv X pins σ H s->RelV x v->Vals xs us->r x xs H Q ->
  wpAny (model X.prog X.w) X.A (call (.builtin id) (v::us)) (EP X pins σ Q) X.xe s
section
variable {X:Cx}{a b:Expr}{ta tb:TE}{pos:Pos}
theorem a7U{r:R2}(hr:IxR X r)(ha:PE X a ta)(hb:PE X b tb)(hs:a0Y b):PE X (.Subscript a b pos) (tOp r ta tb):=by
 intro pins s σ H Q I h;exact Subscript_ (b3w ha hb I h λv u s2 x y H2 I2 rx ry q=>hr a b pins s2 σ H2 x y v u Q I2 rx ry q (hs _ _))
def a6a(K:PySem.W.Frag):R2:=λx y H Q=>∃p xs i v,x=.ref p/\y=.int i/\SqL K H p xs/\atI xs i=some v/\Q v H
def b1U(K:PySem.W.Frag):R2:=λx y H Q=>∃p xs i v,x=.ref p/\y=.int i/\SqT K H p xs/\atI xs i=some v/\Q v H
def b4o:R2:=λx y H Q=>∃z i c,x=.str z/\y=.int i/\z.length<=sizeLine/\atI z.cps.toList i=some c/\Q (.str ⟨#[c]⟩) H
theorem b0w:IxR X (a6a X.K):=by
 intro value slice pins s σ H x y v u Q I rx ry h hs;obtain⟨p,xs,i,z,rfl,rfl,hq,he,q⟩:=h;cases rx;obtain⟨t,rfl⟩:=ry;obtain⟨its,r,pl,hz⟩:=I.list hq;obtain⟨j,h1,h2,h3,h4,h5⟩:=a0X he;obtain⟨w,ew,rw'⟩:=r.get h2;have hl:=r.length;have hn:=U8;have fin:EP X pins σ Q w s:=⟨z,H,I,rw',q⟩;by_cases h0:0<=i
 .have hj:i.toNat=j:=by
   rw[seqIndex_of h0 h5]at h1;exact Option.some.inj h1
  exact item_listR pl.isList h0 (by omega) (by rw[hj];simpa using ew) fin hs
 .have hj:(i+(its.toArray.size:Int)).toNat=j:=by
   rw[seqIndex_neg (by omega) h4]at h1;rw[List.size_toArray,<-hl];exact Option.some.inj h1
  exact subscriptTail_builtinR (x:=w) pl.isList.typeIs slot_list_getitem.lookup
   (wpAny_getItem_list_neg (Q:=λr s'=>r=w/\EP X pins σ Q r s') pl.isList (by omega) (by rw[List.size_toArray]<;>omega) (by omega) (by rw[hj];simpa using ew) ⟨rfl,fin⟩) hs
theorem b3g:IxR X (b1U X.K):=by
 intro value slice pins s σ H x y v u Q I rx ry h hs;obtain⟨p,xs,i,z,rfl,rfl,hq,he,q⟩:=h;cases rx;obtain⟨t,rfl⟩:=ry;obtain⟨its,r,pl,hz⟩:=I.tuple hq;obtain⟨j,h1,h2,h3,h4,h5⟩:=a0X he;obtain⟨w,ew,rw'⟩:=r.get h2;have hl:=r.length;have hn:=U8;have fin:EP X pins σ Q w s:=⟨z,H,I,rw',q⟩;exact subscriptTail_builtinR (x:=w) pl.typeIs slot_tuple_getitem.lookup
  (getItem_tuple (j:=j) (Q:=λr s'=>r=w/\EP X pins σ Q r s') pl (by omega) (by omega) (by rw[List.size_toArray,<-hl];exact h1) (by simpa using ew) ⟨rfl,fin⟩) hs
theorem b3h:IxR X b4o:=by
 intro value slice pins s σ H x y v u Q I rx ry h hs;obtain⟨z,i,c,rfl,rfl,hz,he,q⟩:=h;obtain⟨t,rfl⟩:=rx;obtain⟨t',rfl⟩:=ry;obtain⟨j,h1,h2,h3,h4,h5⟩:=a0X he;have hl:z.cps.toList.length=z.length:=by simp[Str.length]
 rw[hl]at h1 h4 h5;have hn:=U8;exact tail_any (typeIs_str s z t) slot_str_getitem.lookup (getItem_str (c:=c) (by
  have e1:decide (i < -(2 ^ 63:Int))=false:=decide_eq_false (by omega);have e2:decide (i ≥ 2 ^ 63)=false:=decide_eq_false (by omega);rw[e1,e2,Bool.or_false]) (by rw[h1];simpa using h2) ⟨.str ⟨#[c]⟩,H,I.tok _,⟨_,rfl⟩,q⟩) hs
theorem a4M(its:List Value)(n j:Nat)(u:Value):Obj.mapSeq (·.setIfInBounds j u) {cls:=.type "list",data:=.seq its.toArray n}={cls:=.type "list",data:=.seq (its.set j u).toArray n}:=by
 simp[Obj.mapSeq]
theorem Inv.lst{pins:List (Addr×Obj)}{σ:St}{H:Hp}{s:Shared}{p:Addr}{xs:List V}(I:Inv X pins σ H s)(h:H p=some (.lst xs)) :
  ∃(its:List Value) (n:Nat),Vals xs its/\s.heap.get? p=some {cls:=.type "list",data:=.seq its.toArray n}/\xs.length<=sizeLine:=by
 obtain⟨z,its,n,r,e⟩:=I.hok p _ h;exact⟨its,n,r,e,z⟩
theorem Inv.lstUpd{pins:List (Addr×Obj)}{σ:St}{H:Hp}{s:Shared}{p:Addr}{xs ys:List V}{its its':List Value}{n n':Nat}{f:Obj->Obj}(I:Inv X pins σ H s)(h:H p=some (.lst xs))
  (ho:s.heap.get? p=some {cls:=.type "list",data:=.seq its.toArray n}) (hf:f {cls:=.type "list",data:=.seq its.toArray n}={cls:=.type "list",data:=.seq its'.toArray n'}) (r:Vals ys its') (hz:ys.length<=sizeLine) (t:Nat) :
  Inv X pins σ (upd H p (.lst ys)) {s with heap:=s.heap.update p f,toks:=t}:=by
 have e:(s.heap.update p f).get? p=some {cls:=.type "list",data:=.seq its'.toArray n'}:=by
  rw[Heap.get?_update_self f ho (by rw[hf]<;>rfl),hf]
 refine I.write (x:=p) (e:=p) (by rw[h];trivial) (.inl rfl) (λb u hb q=>(Heap.get?_update_other _ _ (Ne.symm hb)).trans q) ⟨_,e⟩ ?_;exact⟨hz,its',n',r,e⟩
def a7x:V->V->V->Hp->(Hp->Prop)->Prop:=λo i v H Q=>∃p xs k j,o=.ref p/\i=.int k/\H p=some (.lst xs)/\ixN xs.length k=some j/\Q (upd H p (.lst (xs.set j v)))
theorem a3F:b3E X a7x:=by
 intro pins s σ H o i v ov iv u Q I ro ri rv h;obtain⟨p,xs,k,j,rfl,rfl,hp,hj,q⟩:=h;cases ro;obtain⟨t,rfl⟩:=ri;obtain⟨its,n,r,ho,hz⟩:=I.lst hp;obtain⟨h1,h2,h3,h4⟩:=a5D hj;have hl:=r.length;have hn:=U8;have I':Inv X pins σ (upd H p (.lst (xs.set j v))) {s with heap:=s.heap.update p (Obj.mapSeq (·.setIfInBounds j u))} :=
  I.lstUpd hp ho (a4M its n j u) (r.set rv j) (by rw[List.length_set];exact hz) s.toks
 by_cases h0:0<=k
 .have hk:k.toNat=j:=by
   rw[seqIndex_of h0 h4]at h1;exact Option.some.inj h1
  exact PySem.W.ki_setAt ho h0 (by omega) (by rw[List.size_toArray,<-hl];exact h4) (by rw[hk];exact⟨_,I',q⟩)
 .have hk:(k+(its.toArray.size:Int)).toNat=j:=by
   rw[seqIndex_neg (by omega) h3]at h1;rw[List.size_toArray,<-hl];exact Option.some.inj h1
  exact PySem.W.ki_setBack ho (by omega) (by rw[List.size_toArray,<-hl];exact h3) (by omega) (by rw[hk];exact⟨_,I',q⟩)
theorem a2O(lo hi:Option Int)(n:Nat):(sliceBounds lo hi none n).1=((HT.sIx n 0 lo:Nat):Int)/\(sliceBounds lo hi none n).2.1=((HT.sIx n n hi:Nat):Int)/\(sliceBounds lo hi none n).2.2=1:=by
 refine⟨?_,?_,rfl⟩
 .cases lo with
  |none=>simp[sliceBounds,HT.sIx]
  |some i =>
   simp only[sliceBounds,HT.sIx,Option.getD_none,show(1:Int) > 0 by decide,if_true];by_cases h:i<0
   .simp only[h,if_true]<;>omega
   .simp only[h,if_false]<;>omega
 .cases hi with
  |none=>simp[sliceBounds,HT.sIx]
  |some i =>
   simp only[sliceBounds,HT.sIx,Option.getD_none,show(1:Int) > 0 by decide,if_true];by_cases h:i<0
   .simp only[h,if_true]<;>omega
   .simp only[h,if_false]<;>omega
theorem a1S(its:List Value)(lo hi:Option Int):slicePick its.toArray lo hi none=((its.drop (HT.sIx its.length 0 lo)).take (HT.sIx its.length its.length hi-HT.sIx its.length 0 lo)).toArray:=by
 obtain⟨h1,h2,h3⟩:=a2O lo hi its.toArray.size;unfold slicePick;rw[h1,h2,h3];simp only[sliceRange_one,pick_run,List.size_toArray]<;>rfl
def b1T(K:PySem.W.Frag):V->Option Int->Option Int->Hp->VK->Prop:=λx lo hi H Q=>∃a xs,x=.ref a/\SqL K H a xs/\∀p,H p=none->Q (.ref p) (upd H p (.lst (W9 xs lo hi)))
theorem a9k:SlR X (b1T X.K):=by
 intro pins s σ H x v vl vu lo hi sl Q I rx hs pl pu h;obtain⟨a,xs,rfl,hx,q⟩:=h;cases rx;obtain⟨its,r,ht,hz⟩:=I.list hx;have hlen:=r.length;refine⟨"list",_,slot_list_getitem.lookup,ht.isList.typeIs,?_⟩;refine wpAny_getItem_list_slice ht.isList hs pl pu .none (by simp) ?_ (by rw[List.size_toArray]<;>omega);rw[a1S,<-hlen];refine⟨.ref s.heap.objs.size,_,I.laid (t':=s.toks) (o:=.lst (W9 xs lo hi)) (λb ob q=>Heap.get?_push_of_some _ q) (Nat.le_refl _) ?_,rfl,q _ (I.hok.fresh (Nat.le_refl _))⟩;exact⟨Nat.le_trans (a4q xs lo hi) hz,_,0,(r.drop (HT.sIx xs.length 0 lo)).take (HT.sIx xs.length xs.length hi-HT.sIx xs.length 0 lo),Heap.get?_push_size _ rfl⟩
noncomputable def I0:V->Bool
 |.non=>true
 |.bl _=>true
 |.int _=>true
 |.str _=>true
 |_=>false
noncomputable def eqV:V->V->Bool
 |.non,.non=>true
 |.bl a,.bl b=>a==b
 |.bl a,.int b=>(if a then 1 else 0)==b
 |.int a,.bl b=>a==(if b then 1 else 0)
 |.int a,.int b=>a==b
 |.str a,.str b=>a==b
 |_,_=>false
theorem a8Q{A:Around}{s:Shared}{y x:V}{u v:Value}(ry:RelV y u)(rx:RelV x v)(fy:I0 y=true)(fx:I0 x=true):SeqAt.EqAt A s u v (eqV y x):=by
 cases y with
 |non =>
  cases ry;cases x with
  |non=>cases rx;exact SeqAt.EqAt.same _
  |bl b=>cases rx;exact SeqAt.EqAt.none_bool b
  |int b=>obtain⟨t,rfl⟩:=rx;exact SeqAt.EqAt.none_int b t
  |str b=>obtain⟨t,rfl⟩:=rx;exact SeqAt.EqAt.none_str b t
  |_=>exact absurd (show false=true from fx) Bool.false_ne_true
 |bl a =>
  cases ry;cases x with
  |non=>cases rx;exact SeqAt.EqAt.bool_none a
  |bl b=>cases rx;exact SeqAt.EqAt.bool_bool a b
  |int b=>obtain⟨t,rfl⟩:=rx;exact SeqAt.EqAt.bool_int a b t
  |str b=>obtain⟨t,rfl⟩:=rx;exact SeqAt.EqAt.bool_str a b t
  |_=>exact absurd (show false=true from fx) Bool.false_ne_true
 |int a =>
  obtain⟨t',rfl⟩:=ry;cases x with
  |non=>cases rx;exact SeqAt.EqAt.int_none a t'
  |bl b=>cases rx;exact SeqAt.EqAt.int_bool a t' b
  |int b=>obtain⟨t,rfl⟩:=rx;exact SeqAt.EqAt.int_int a t' b t
  |str b=>obtain⟨t,rfl⟩:=rx;exact SeqAt.EqAt.int_str a t' b t
  |_=>exact absurd (show false=true from fx) Bool.false_ne_true
 |str a =>
  obtain⟨t',rfl⟩:=ry;cases x with
  |non=>cases rx;exact SeqAt.EqAt.str_none a t'
  |bl b=>cases rx;exact SeqAt.EqAt.str_bool a t' b
  |int b=>obtain⟨t,rfl⟩:=rx;exact SeqAt.EqAt.str_int a t' b t
  |str b=>obtain⟨t,rfl⟩:=rx;exact SeqAt.EqAt.str_str a t' b t
  |_=>exact absurd (show false=true from fx) Bool.false_ne_true
 |_=>exact absurd (show false=true from fy) Bool.false_ne_true
noncomputable def eqU(x:V)(u:Value):Bool:=match u with
 |.none=>eqV .non x
 |.bool b=>eqV (.bl b) x
 |.int i _=>eqV (.int i) x
 |.str z _=>eqV (.str z) x
 |_=>false
theorem a8P{x y:V}{u:Value}(r:RelV y u)(f:I0 y=true):eqU x u=eqV y x:=by
 cases y with
 |non=>cases r;rfl
 |bl b=>cases r;rfl
 |int i=>obtain⟨t,rfl⟩:=r;rfl
 |str z=>obtain⟨t,rfl⟩:=r;rfl
 |_=>exact absurd (show false=true from f) Bool.false_ne_true
theorem a0i{x:V}:∀{xs:List V}{us:List Value},Vals xs us->xs.all I0=true->us.any (eqU x)=xs.any λy=>eqV y x
 |_,_,.nil,_=>rfl
 |y::xs,u::us,.cons r t,f=>by
  rw[List.all_cons,Bool.and_eq_true]at f;rw[List.any_cons,List.any_cons,a8P r f.1,a0i t f.2]
theorem U6{A:Around}{s:Shared}{x:V}{v:Value}(rx:RelV x v)(fx:I0 x=true):∀{xs:List V}{us:List Value},Vals xs us->xs.all I0=true->∀u∈us,SeqAt.EqAt A s u v (eqU x u)
 |_,_,.nil,_=>λu hu=>by cases hu
 |y::xs,u::us,.cons r t,f=>λu' hu=>by
  rw[List.all_cons,Bool.and_eq_true]at f;rcases List.mem_cons.mp hu with rfl|hu
  .rw[a8P r f.1];exact a8Q r rx f.1 fx
  .exact U6 rx fx t f.2 u' hu
noncomputable def inV(x:V)(xs:List V):Bool:=xs.any λy=>eqV y x
def rIn(K:PySem.W.Frag)(neg:Bool):R2:=λx y H Q=>∃p xs,y=.ref p/\(SqL K H p xs∨SqT K H p xs)/\I0 x=true/\xs.all I0=true/\Q (.bl (if neg then !inV x xs else inV x xs)) H
theorem a6g:OpR X (compareOp .In) (rIn X.K false):=by
 intro pins s σ H x y v u Q I rx ry h;obtain⟨p,xs,rfl,hq,fx,fs,q⟩:=h;cases ry;rcases hq with hq|hq
 .obtain⟨its,r,pl,hz⟩:=I.list hq;refine SeqAt.in_listAt (eqU x) pl.isList (λw hw=>U6 rx fx r fs w (by simpa using hw)) ⟨.bl _,H,I,rfl,?_⟩;rw[show its.toArray.any (eqU x)=its.any (eqU x) by simp,a0i r fs];exact q
 .obtain⟨its,r,pl,hz⟩:=I.tuple hq;refine SeqAt.in_tupleAt (eqU x) pl (λw hw=>U6 rx fx r fs w (by simpa using hw)) ⟨.bl _,H,I,rfl,?_⟩;rw[show its.toArray.any (eqU x)=its.any (eqU x) by simp,a0i r fs];exact q
theorem a2X:OpR X (compareOp .NotIn) (rIn X.K true):=by
 intro pins s σ H x y v u Q I rx ry h;obtain⟨p,xs,rfl,hq,fx,fs,q⟩:=h;cases ry;rcases hq with hq|hq
 .obtain⟨its,r,pl,hz⟩:=I.list hq;refine SeqAt.notIn_listAt (eqU x) pl.isList (λw hw=>U6 rx fx r fs w (by simpa using hw)) ⟨.bl _,H,I,rfl,?_⟩;rw[show its.toArray.any (eqU x)=its.any (eqU x) by simp,a0i r fs];exact q
 .obtain⟨its,r,pl,hz⟩:=I.tuple hq;refine SeqAt.notIn_tupleAt (eqU x) pl (λw hw=>U6 rx fx r fs w (by simpa using hw)) ⟨.bl _,H,I,rfl,?_⟩;rw[show its.toArray.any (eqU x)=its.any (eqU x) by simp,a0i r fs];exact q
theorem a3v:E9 X (.builtin "len") (λxs H Q=>∃p ys,xs=[.ref p]/\(SqL X.K H p ys∨SqT X.K H p ys)/\Q (.int ys.length) H):=by
 intro pins s σ H xs us Q I r h;obtain⟨p,ys,rfl,hq,q⟩:=h;obtain⟨u,rfl,rx⟩:=a0y r;cases rx;have hn:=U8;rcases hq with hq|hq
 .obtain⟨its,r',pl,hz⟩:=I.list hq;have hlen:=r'.length;exact Calls.call_len_list pl.isList (by simp only[List.size_toArray]<;>omega) ⟨.int ys.length,H,I.tok _,⟨s.toks+1,by rw[List.size_toArray,hlen]⟩,q⟩
 .obtain⟨its,r',pl,hz⟩:=I.tuple hq;have hlen:=r'.length;exact len_tuple pl (by simp only[List.size_toArray]<;>omega) ⟨.int ys.length,H,I.tok _,⟨s.toks+1,by rw[List.size_toArray,hlen]⟩,q⟩
theorem a3u:E9 X (.builtin "len") (λxs H Q=>∃z,xs=[.str z]/\z.length<=sizeLine/\Q (.int z.length) H):=by
 intro pins s σ H xs us Q I r h;obtain⟨z,rfl,hz,q⟩:=h;obtain⟨u,rfl,t,rfl⟩:=a0y r;have hn:=U8;exact len_str (by omega) ⟨.int z.length,H,I.tok _,⟨_,rfl⟩,q⟩
theorem a3t:E9 X (.type "list") (λxs H Q=>∃p ys,xs=[.ref p]/\(SqL X.K H p ys∨SqT X.K H p ys)/\∀l,H l=none->Q (.ref l) (upd H l (.lst ys))):=by
 intro pins s σ H xs us Q I r h;obtain⟨p,ys,rfl,hq,q⟩:=h;obtain⟨u,rfl,rx⟩:=a0y r;cases rx;have fin:∀(its:List Value),Vals ys its->ys.length<=sizeLine->∀(h':Heap) (c':Nat),(∀b o',s.heap.get? b=some o'->h'.get? b=some o') ->
   h'.get? s.heap.objs.size=some {cls:=.type "list",dict:=none,data:=.seq its.toArray c',slots:=#[]}->EP X pins σ Q (.ref s.heap.objs.size) {s with heap:=h'}:=λits r' hz h' c' kp e =>
  ⟨.ref s.heap.objs.size,_,I.laid (t':=s.toks) kp (Nat.le_refl _) (show ObjOk X.prog X.w _ h' _ (.lst ys)from⟨hz,its,c',r',e⟩),rfl,q _ (I.hok.fresh (Nat.le_refl _))⟩
 rcases hq with hq|hq
 .obtain⟨its,r',pl,hz⟩:=I.list hq;have hlen:=r'.length;obtain⟨o,ho,hc,n,hd⟩:=pl.isList;exact call_list_seq p (.inl rfl) ho hc hd (λh' c' kp e=>fin its r' hz h' c' kp e) (by simp only[List.size_toArray]<;>omega)
 .obtain⟨its,r',pl,hz⟩:=I.tuple hq;have hlen:=r'.length;obtain⟨o,ho,hc,n,hd⟩:=pl;exact call_list_seq p (.inr rfl) ho hc hd (λh' c' kp e=>fin its r' hz h' c' kp e) (by simp only[List.size_toArray]<;>omega)
theorem a2e:E9 X (.type "tuple") (λxs H Q=>∃p ys,xs=[.ref p]/\((SqL X.K H p ys/\∀l,H l=none->Q (.ref l) (upd H l (.tup ys)))∨(SqT X.K H p ys/\Q (.ref p) H))):=by
 intro pins s σ H xs us Q I r h;obtain⟨p,ys,rfl,h⟩:=h;obtain⟨u,rfl,rx⟩:=a0y r;cases rx;rcases h with⟨hq,q⟩|⟨hq,q⟩
 .obtain⟨its,r',pl,hz⟩:=I.list hq;have hlen:=r'.length;refine call_tuple_list pl.isList (λh' kp=>?_) (by simp only[List.size_toArray]<;>omega);have I1:Inv X pins σ H {s with heap:=h'}:=I.kept (t':=s.toks) kp;have I2:Inv X pins σ (upd H h'.objs.size (.tup ys)) {s with heap:=h'.push {cls:=.type "tuple",data:=.seq its.toArray}} :=
   I1.laid (t':=s.toks) (λb o e=>Heap.get?_push_of_some _ e) (Nat.le_refl _) (show ObjOk X.prog X.w _ _ _ (.tup ys)from⟨hz,its,r',IsTp.new _ _⟩)
  exact⟨.ref h'.objs.size,_,I2,rfl,q _ (I1.hok.fresh (Nat.le_refl _))⟩
 .obtain⟨its,r',pl,hz⟩:=I.tuple hq;exact call_tuple_same pl ⟨.ref p,H,I,rfl,q⟩
def tyV(K:PySem.W.Frag)(T:String)(x:V)(H:Hp):Prop:=match x with
 |.str _=>T="str"
 |.int _=>T="int"
 |.ref p=>(T="list" /\ ∃xs,SqL K H p xs)∨(T="tuple" /\ ∃o,K.lookup p=some o/\o.cls=.type "tuple"/\o.dict=none) ∨
   (T="dict"/\((∃kvs,H p=some (.dK kvs))∨∃kvs,H p=some (.dT kvs)))∨(T="set" /\ ∃S n,H p=some (.set S n))
 |_=>False
theorem b1F{pins:List (Addr×Obj)}{σ:St}{H:Hp}{s:Shared}{T:String}{x:V}{v:Value}(I:Inv X pins σ H s)(r:RelV x v)(ty:tyV X.K T x H) :
  s.TypeIs v T/\∀a,v=.ref a->∃ob,s.heap.get? a=some ob/\ob.dict=none:=by
 cases x with
 |str z =>
  obtain⟨t,rfl⟩:=r;cases(show T="str" from ty);exact⟨typeIs_str s z t,λ_ e=>nomatch e⟩
 |int i =>
  obtain⟨t,rfl⟩:=r;cases(show T="int" from ty);exact⟨typeIs_int s i t,λ_ e=>nomatch e⟩
 |ref p =>
  cases r;rcases ty with⟨rfl,xs,hq⟩|⟨rfl,o,hk,hc,hd⟩|⟨rfl,hk⟩|⟨rfl,S,n,hk⟩
  .obtain⟨its,_,pl,_⟩:=I.list hq;refine⟨pl.isList.typeIs,λa e=>?_⟩;cases e;obtain⟨o,n,e,c,hd,_⟩:=pl;exact⟨o,e,hd⟩
  .refine⟨⟨o,I.kIn p o hk,hc⟩,λa e=>?_⟩;cases e;exact⟨o,I.kIn _ o hk,hd⟩
  .have z:∃o,s.heap.get? p=some o/\o.ExactDict:=by
    rcases hk with⟨kvs,hk⟩|⟨kvs,hk⟩
    .obtain⟨_,_,_,_,o,_,_,e,ex,_⟩:=I.hok p _ hk;exact⟨o,e,ex⟩
    .obtain⟨_,_,_,_,o,_,_,e,ex,_⟩:=I.hok p _ hk;exact⟨o,e,ex⟩
   obtain⟨o,e,ex⟩:=z;refine⟨⟨o,e,ex.1⟩,λa e2=>?_⟩;cases e2;exact⟨o,e,ex.2.1⟩
  .obtain⟨o,_,_,_,e,ex,_⟩:=I.hok p _ hk;refine⟨⟨o,e,ex.1⟩,λa e2=>?_⟩;cases e2;exact⟨o,e,ex.2.1⟩
 |_=>exact False.elim ty
def tBM(K:PySem.W.Frag)(T:String)(r:V->List V->Hp->VK->Prop)(to:TE)(t:TA):TE:=λσ H Q=>to σ H λx H1=>tyV K T x H1/\t σ H1 λxs H2=>r x xs H2 Q
variable {o e:Expr}{es:List Expr}{to:TE}{t:TA}{name:Str}{apos cpos:Pos}{T id:String}{r:V->List V->Hp->VK->Prop}
theorem b4x(pa:PlainAttrs T)(slot:Slot T name id)(hty:typeOf (.builtin id)=pure (.type "method_descriptor"))(hm:MtR X id r)(ho:PE X o to)(ha:PA X (e::es) t)
  (hbase:attributeBase o name X.env (eval o X.env)=eval o X.env:=by rfl)
  (hfew:((backTo cpos (starEach (e::es) X.env)).all (λx=>!x.1) && (backToKw cpos (keywordEach [] X.env)).all (λx=>x.1.isSome)
   && decide ((e::es).length+([]:List Keyword).length+(if ([]:List Keyword).isEmpty then 0 else 1)<30))=true:=by rfl)
  (hline:(apos.endLine==cpos.line)=true:=by rfl) (hs:starEach (e::es) X.env=(false,eval e X.env)::starEach es X.env:=by rfl) (hplain:(backTo cpos (starEach es X.env)).any (·.1)=false:=by rfl) :
  PE X (.Call (.Attribute o name apos) (e::es) [] cpos) (tBM X.K T r to t):=by
 intro pins s σ H Q I h;refine wpAny_Call_method_late hbase hfew hline rfl (thn (ho pins s σ H _ I h) λv s1 ⟨x,H1,I1,r1,ty,q1⟩=>?_);obtain⟨h1,h2⟩:=b1F I1 r1 ty;refine⟨T,id,pa,slot,hty,h1,h2,?_⟩;have hA:=ha cpos pins s1 σ H1 _ I1 q1;rw[hs]at hA⊢;refine Calls.callWith_builtin (by show(false || (backTo cpos (starEach es X.env)).any (·.1))=false;rw[hplain]<;>rfl) (Calls.evalArgs_plain ?_);exact thn hA λus s2 ⟨vs,H2,I2,r2,q2⟩=>hm pins s2 σ H2 x vs v us Q I2 r1 r2 q2
end
def MtM(X:Cx)(id:String)(r:V->List V->Hp->VK->Prop):Prop :=
 ∀(pins:List (Addr×Obj)) (s:Shared) (σ:St) (H:Hp) (x:V) (xs:List V) (v:Value) (us:List Value) (Q:VK),Inv X pins σ H s->RelV x v->Vals xs us->r x xs H Q ->
  wpAny (model X.prog X.w) X.A (call (.builtin id) (v::us)) (EP X pins σ Q) X.xe s
theorem Vals.one{x:V}{us:List Value}(h:Vals [x] us):∃u,us=[u]/\RelV x u:=by
 cases h with
 |cons r q=>cases q;exact⟨_,rfl,r⟩
theorem Vals.two{x y:V}{us:List Value}(h:Vals [x,y] us):∃u v,us=[u,v]/\RelV x u/\RelV y v:=by
 cases h with
 |cons r h=>obtain⟨v,rfl,q⟩:=Vals.one (x:=y) h;exact⟨_,_,rfl,r,q⟩
theorem Vals.eraseIdx:∀{xs:List V}{us:List Value}(i:Nat),Vals xs us->Vals (xs.eraseIdx i) (us.eraseIdx i)
 |_,_,_,.nil=>.nil
 |_,_,0,.cons _ t=>t
 |_,_,i+1,.cons r t=>.cons r (Vals.eraseIdx i t)
theorem Vals.reverse{xs:List V}{us:List Value}(h:Vals xs us):Vals xs.reverse us.reverse:=by
 induction h with
 |nil=>exact .nil
 |cons r t ih=>rw[List.reverse_cons,List.reverse_cons];exact Vals.append ih (.cons r .nil)
theorem Vals.rep{xs:List V}{us:List Value}(h:Vals xs us):∀k:Nat,Vals (List.replicate k xs).flatten (List.replicate k us).flatten
 |0=>.nil
 |k+1=>by
  rw[List.replicate_succ,List.replicate_succ,List.flatten_cons,List.flatten_cons];exact Vals.append h (Vals.rep h k)
theorem a2p{α:Type}:∀(l:List α) (i:Nat),(l.eraseIdx i).length<=l.length
 |[],_=>Nat.le_refl _
 |_::_,0=>Nat.le_succ _
 |_::r,i+1=>Nat.succ_le_succ (a2p r i)
theorem a2w(its:List Value):∀(k:Nat) (acc:List Value),
  List.foldl (λx1 x2=>x1++x2) acc.toArray (List.replicate k its.toArray)=(acc++(List.replicate k its).flatten).toArray
 |0,acc=>by simp
 |k+1,acc=>by
  have e:acc.toArray++its.toArray=(acc++its).toArray:=by simp
  have e2:(acc++its)++(List.replicate k its).flatten=acc++(List.replicate (k+1) its).flatten:=by
   rw[List.replicate_succ,List.flatten_cons,List.append_assoc]
  rw[<-e2,<-a2w its k (acc++its),<-e,List.replicate_succ,List.foldl_cons]
section
variable {X:Cx}{pins:List (Addr×Obj)}{σ:St}{H:Hp}{s:Shared}{l b:Addr}{xs ys zs:List V}
theorem Inv.lset{its its':List Value}{n:Nat}{f:Array Value->Array Value}{t':Nat}(I:Inv X pins σ H s)(hH:H l=some (.lst xs))
  (e:s.heap.get? l=some {cls:=.type "list",data:=.seq its.toArray n}) (hf:f its.toArray=its'.toArray) (hv:Vals ys its') (hz:ys.length<=sizeLine) :
  Inv X pins σ (upd H l (.lst ys)) {s with heap:=s.heap.update l (Obj.mapSeq f),toks:=t'}:=by
 have q:=PySem.IsL.update e f;rw[hf]at q;refine I.write (x:=l) (e:=l) (by rw[hH];exact trivial) (.inl rfl) (λb' u hb hu=>(Heap.get?_update_other s.heap (Obj.mapSeq f) (Ne.symm hb)).trans hu) ⟨_,q⟩ ?_;exact⟨hz,its',_,hv,q⟩
theorem Inv.lnew{its:List Value}{t':Nat}(I:Inv X pins σ H s)(hv:Vals ys its)(hz:ys.length<=sizeLine) :
  Inv X pins σ (upd H s.heap.objs.size (.lst ys)) {s with heap:=s.heap.push {cls:=.type "list",data:=.seq its.toArray},toks:=t'} :=
 I.laid (λ_ _ q=>Heap.get?_push_of_some _ q) (Nat.le_refl _) ⟨hz,its,0,hv,Heap.get?_push_size _ rfl⟩
theorem Inv.fresh(I:Inv X pins σ H s):H s.heap.objs.size=none:=I.hok.fresh (Nat.le_refl _)
theorem Inv.lstM(I:Inv X pins σ H s)(hH:H l=some (.lst xs)):xs.length<=sizeLine/\∃(its:List Value) (n:Nat),Vals xs its/\xs.length=its.length/\s.heap.get? l=some {cls:=.type "list",data:=.seq its.toArray n}:=by
 obtain⟨z,its,n,r,e⟩:=I.hok l _ hH;exact⟨z,its,n,r,r.length,e⟩
theorem a3Q{n:Nat}(h:n<=sizeLine):Builtin.List.listTooLong n=false:=by
 unfold Builtin.List.listTooLong;exact decide_eq_false (by omega)
end
section
variable {X:Cx}
def a0P:V->List V->Hp->VK->Prop:=λx vs H Q=>∃l xs y,x=.ref l/\vs=[y]/\H l=some (.lst xs)/\xs.length<sizeLine/\Q .non (upd H l (.lst (xs++[y])))
theorem a6m:MtM X "list.append" a0P:=by
 intro pins s σ H x vs v us Q I rx rv h;obtain⟨l,xs,y,rfl,rfl,hH,hz,q⟩:=h;cases rx;obtain⟨u,rfl,ru⟩:=rv.one;obtain⟨z,its,n,r,hl,e⟩:=I.lstM hH;refine call_meets F.slot_list_append ⟨_,e,rfl⟩ F.entry_list_append (F.args_list_append_2 _ _) (PySem.list_append l its.toArray n u (by rw[List.size_toArray];omega)) ⟨e,?_⟩;refine⟨.non,_,I.lset (its':=its++[u]) hH e (by simp) (r.append (.cons ru .nil)) ?_,rfl,q⟩;rw[List.length_append,List.length_singleton];omega
def a5o:V->List V->Hp->VK->Prop:=λx vs H Q=>∃l b xs zs,x=.ref l/\vs=[.ref b]/\H l=some (.lst xs)/\H b=some (.lst zs)/\xs.length+zs.length<=sizeLine/\Q .non (upd H l (.lst (xs++zs)))
theorem a6l:MtM X "list.extend" a5o:=by
 intro pins s σ H x vs v us Q I rx rv h;obtain⟨l,b,xs,zs,rfl,rfl,hH,hB,hz,q⟩:=h;cases rx;obtain⟨u,rfl,ru⟩:=rv.one;cases ru;obtain⟨z,its,n,r,hl,e⟩:=I.lstM hH;obtain⟨z2,its2,n2,r2,hl2,e2⟩:=I.lstM hB;have hsz:its.toArray.size+its2.toArray.size<=sizeLine:=by rw[List.size_toArray,List.size_toArray];omega
 have hlong:¬(!its.toArray.isEmpty && Builtin.List.listTooLong (its.toArray.size+its2.toArray.size))=true:=by
  rw[a3Q hsz,Bool.and_false];exact Bool.false_ne_true
 refine call_meets F.slot_list_extend ⟨_,e,rfl⟩ F.entry_list_extend (F.args_list_extend_2 _ _)
  (AutoSeq1.list_extend_list_list_0 l its.toArray n b its2.toArray n2 hlong (by rw[List.size_toArray];omega) (by omega)) ⟨e,e2,?_⟩
 refine⟨.non,_,I.lset (its':=its++its2) hH e (by simp) (r.append r2) ?_,rfl,q⟩;rw[List.length_append];omega
def a7y:V->List V->Hp->VK->Prop:=λx vs H Q=>∃l xs i k y,x=.ref l/\vs=[.int i]/\H l=some (.lst xs) /\ -(2 ^ 63)<=i/\i<2 ^ 63/\seqIndex? i xs.length=some k/\xs[k]?=some y/\Q y (upd H l (.lst (xs.eraseIdx k)))
theorem a8o:MtM X "list.pop" a7y:=by
 intro pins s σ H x vs v us Q I rx rv h;obtain⟨l,xs,i,k,y,rfl,rfl,hH,h1,h2,hk,hy,q⟩:=h;cases rx;obtain⟨u,rfl,ru⟩:=rv.one;obtain⟨t,rfl⟩:=ru;obtain⟨z,its,n,r,hl,e⟩:=I.lstM hH;obtain⟨w,hw,rw'⟩:=r.get hy;refine call_meets F.slot_list_pop ⟨_,e,rfl⟩ F.entry_list_pop (F.args_list_pop_2 _ _)
  (MeetsSeq.list_pop_at l its.toArray n i t k w (fitsIndex_both h1 h2) (by rw[List.size_toArray,<-hl];exact hk) (by rw[<-Array.getElem?_toList];exact hw) (by rw[List.size_toArray];omega)) ⟨e,?_⟩
 refine⟨y,_,I.lset (its':=its.eraseIdx k) hH e ?_ (r.eraseIdx k) ?_,rw',q⟩
 .show its.toArray.eraseIdxIfInBounds k=(its.eraseIdx k).toArray;rw[List.eraseIdxIfInBounds_toArray]
 .have:=a2p xs k;omega
def b4s:R2:=λx y H Q=>∃l b xs zs,x=.ref l/\y=.ref b/\H l=some (.lst xs)/\H b=some (.lst zs)/\xs.length+zs.length<=sizeLine/\∀p,H p=none->Q (.ref p) (upd H p (.lst (xs++zs)))
theorem b2I:OpR X (binaryOp .Add) b4s:=by
 intro pins s σ H x y v u Q I rx ry h;obtain⟨l,b,xs,zs,rfl,rfl,hH,hB,hz,q⟩:=h;cases rx;cases ry;obtain⟨z,its,n,r,hl,e⟩:=I.lstM hH;obtain⟨z2,its2,n2,r2,hl2,e2⟩:=I.lstM hB;refine PySem.P.add_list e e2 ?_ (by rw[List.size_toArray,List.size_toArray];omega);have ea:its.toArray++its2.toArray=(its++its2).toArray:=by simp
 rw[ea];exact⟨.ref _,_,I.lnew (t':=s.toks) (r.append r2) (by rw[List.length_append];omega),rfl,q _ I.fresh⟩
def b4k:R2:=λx y H Q=>∃l k xs,x=.ref l/\y=.int k/\H l=some (.lst xs) /\ -(2 ^ 63)<=k/\k<2 ^ 63/\xs.length*k.toNat<=sizeLine /\
 ∀p,H p=none->Q (.ref p) (upd H p (.lst (List.replicate k.toNat xs).flatten))
theorem a5w{α:Type}(xs:List α)(k:Nat):(List.replicate k xs).flatten.length=k*xs.length:=by
 induction k with
 |zero=>simp
 |succ k ih=>rw[List.replicate_succ,List.flatten_cons,List.length_append,ih,Nat.succ_mul,Nat.add_comm]
theorem b2y:OpR X (binaryOp .Mult) b4k:=by
 intro pins s σ H x y v u Q I rx ry h;obtain⟨l,k,xs,rfl,rfl,hH,h1,h2,hz,q⟩:=h;cases rx;obtain⟨t,rfl⟩:=ry;obtain⟨z,its,n,r,hl,e⟩:=I.lstM hH;have hlen:its.toArray.size*k.toNat<=sizeLine:=by rw[List.size_toArray,<-hl];exact hz
 have hcap:¬its.toArray.size*k.toNat > (2 ^ 63-1) / 8:=by
  have:(sizeLine:Nat)<=(2 ^ 63-1) / 8:=by decide
  omega
 have hfit:¬(!Builtin.List.listFitsIndex k)=true:=by
  rw[fitsIndex_both h1 h2];exact Bool.false_ne_true
 have hlong:¬Builtin.List.listTooLong (its.toArray.size*k.toNat)=true:=by
  rw[a3Q hlen];exact Bool.false_ne_true
 have hnew:List.foldl (λx1 x2=>x1++x2) #[] (List.replicate (if its.toArray.isEmpty=true then 0 else k.toNat) its.toArray)=(List.replicate k.toNat its).flatten.toArray:=by
  have f0:∀m:Nat,List.foldl (λx1 x2=>x1++x2) #[] (List.replicate m its.toArray)=(List.replicate m its).flatten.toArray:=λm=>by
   have:=a2w its m [];rw[List.nil_append]at this;exact this
  rw[f0];cases its with
  |nil=>simp
  |cons a r'=>rw[if_neg (by simp)]
 refine wpAny_binaryOp_repeat_ref (T:="list") (U:="int") (by decide) ⟨_,e,rfl⟩ (λs'=>typeIs_int s' k t) noFill_list_mul F.fills_int_mul F.slot_int_rmul repeat_list F.slot_int_index.lookup
  (call_meets F.slot_int_rmul (typeIs_int s k t) F.entry_int_rmul (F.args_int_rmul_2 _ _) (int___rmul___int_list k t l its.toArray n)
   ⟨e,rfl,⟨_,e,rfl⟩,call_meets F.slot_list_mul ⟨_,e,rfl⟩ F.entry_list_mul (F.args_list_mul_2 _ _) (AutoListH.list___mul___list_int_3 l its.toArray n k t hfit hcap hlong) ⟨e,?_⟩⟩)
 rw[hnew];exact⟨.ref _,_,I.lnew (t':=s.toks) (r.rep k.toNat) (by rw[a5w,Nat.mul_comm];exact hz),rfl,q _ I.fresh⟩
end
section
variable {prog:Program}{w:World}{A:Around}{E:Value->Shared->Prop}{s:Shared}
end
section
variable {X:Cx}
end
end L2
namespace Att
open PySem PySem.W PySem.Calls PyProof.Rows
theorem a0M{P:Params}{h:Heap}:∀(ns:List Int) (vs:List Value),WellAll P h vs (ns.map WData.int)->IntsAre vs ns:=by
 intro ns;induction ns with
 |nil =>
  intro vs w;rw[List.map_nil]at w;cases w;exact .nil
 |cons n ns ih =>
  intro vs w;rw[List.map_cons]at w;cases w with
  |cons a b =>
   cases a;exact .cons _ _ (ih _ b)
theorem a5X{l:OpenLaw}{n:Nat}(hn:l.most=some n){P:Params}{h:Heap}{args:List WData}{vals:List Value}
  (hpre:l.row.toRowW.claim.pre args=true) (hwl:WellAll P h vals args) :
  ∃a vs ns,vals=[Value.ref a]/\args=[WData.list (ns.map WData.int)]/\h.get? a=some {cls:=.type "list",data:=.seq vs.toArray}/\IntsAre vs ns/\ns.length<=n:=by
 have hsh:WShape.hasAll [] args [.list .int]=true:=(pre_splitW hpre).1;have hc:l.pre.holds [] {args:=args}=true:=(pre_splitW hpre).2;obtain⟨d,r,rfl,h1,h2⟩:=hasAllW_cons hsh;obtain rfl:=hasAllW_nil h2;obtain⟨xs,rfl,h3⟩:=hasW_list h1;obtain⟨ns,rfl⟩:=items_int h3;have hlen:ns.length<=n:=by
  unfold OpenLaw.pre at hc;have h4:(WTm.not (.lt (.lit (.int (n:Int))) (.len (.arg 0)))).holds [] {args:=[.list (ns.map .int)]}=true:=by
   have h4:=(holds_andW hc).1;rw[hn]at h4;exact h4
  have h5:=condW_of h4 (w_not (w_lt w_lit (w_len_list (w_arg rfl))));rw[List.length_map]at h5;refine Nat.le_of_not_lt λq=>?_;have q':(n:Int)<((ns.length:Nat):Int):=by omega
  first
   |(rw[decide_eq_true q']at h5;exact absurd h5 (by decide))
   |(simp at h5;omega)
 cases hwl with
 |cons w1 w2 =>
  cases w2;cases w1 with
  |list ho hall=>exact⟨_,_,ns,rfl,rfl,ho,a0M ns _ hall,hlen⟩
theorem a6d(l:OpenLaw)(args:List WData):l.row.toRowW.claim.post args (.bool true) args=true :=
 postW_of (r:=l.row.toRowW) (X:=(true==true))
  (show WShape.has [] (.bool true) .bool=true by first|rfl|decide|simp[WShape.has,WShape.arms,WShape.armsAll])
  (show(WTm.eq .res (.lit (.bool true))).value [] {args:=args,res:=some (.bool true),after:=args}=some (.bool (true==true))from w_eq_bool (w_res rfl) w_lit) rfl
theorem attach_call{l:OpenLaw}{n:Nat}{q:Program}{loose:List Str}{XP:(Str->Option Value)->Heap->Prop}{YP:World->Heap->Prop}{d:DefRec}
  (hn:l.most=some n) (hdf:d.params.defaults=[])
  (call:∀(w:World) (s₀ s₁:Shared) (mg mb:Str->Option Value) (fa:Addr) (o:Obj) (pm cd doc:Value) (a:Addr) (vs:List Value) (ns:List Int),
   Ground q loose [] XP w s₀ mg mb s₁.heap->YP w s₁.heap ->
   s₁.heap.get? fa=some o->o.data=.func (docDef d.name d.params d.body d.scope pm cd doc)->s₁.heap.CodeRec cd d.name->mg d.name=some (.ref fa) ->
   s₁.heap.get? a=some {cls:=.type "list",data:=.seq vs.toArray}->IntsAre vs ns->ns.length<=n->s₁.gens=#[] ->
   codeAny (model l.prog w) callerA (.call (.ref fa) ⟨[.ref a],[]⟩) (λr s'=>r=.ok (.ret (.bool true))/\OldK s₁.heap s'.heap/\s'.os=s₁.os/\AllBare s'.gens) s₁) :
  WalkO q loose XP YP l.row.toRowW d [] (λf vs=>PySem.call f vs):=by
 intro w s₀ s₁ mg mb G Y fa o pm cd doc dV kV ho hd hcd hD hmg hg args vals as hpre hlay hrd hwl hlo;obtain rfl:dV=.none:=Dflts.none hD hdf;obtain rfl:kV=.none:=Dflts.noKw hD;obtain⟨a,vs,ns,rfl,rfl,hobj,hints,hlen⟩:=a5X hn hpre hwl;refine enter_call (codeAny_mono (call w s₀ s₁ mg mb fa o pm cd doc a vs ns G Y ho (fd_plain hd) hcd hmg hobj hints hlen hg) λr s' hq=>?_);obtain⟨rfl,h2,h3,h4⟩:=hq;exact⟨.inl ⟨.bool true,.bool true,[],rfl,λ_=>rfl,.bool true,a6d l _,λ_=>⟨List.Pairwise.nil,λ_ hm=>(nomatch hm)⟩⟩,h2,h3,h4⟩
section
variable {prog:Program}{w:World}{A:Around}{E:Value->Shared->Prop}{s:Shared}{K:Frag}
end
end Att
namespace L2
open PySem PySem.Spec PyProof.Rows
theorem a2h:∀{vs:List Value}{ns:List Int},IntsAre vs ns->Vals (ns.map V.int) vs
 |_,_,.nil=>.nil
 |_,_,.cons n t h=>.cons ⟨t,rfl⟩ (a2h h)
def b3G(H:Hp):Prop:=∀b,H b=none∨∃o xs,H b=some (.frz o (.lst xs))
theorem a8u{P:Program}{w:World}{K:PySem.W.Frag}{mg mb:Str->Option Value}{CX:CXT}{k:Nat}{fa a:Addr}{fd:FuncData}{x:Str}{sp:Sp}{s₁:Shared}{vs:List Value}{ns:List Int}
  (KX:K.In s₁.heap) (hns:s₁.heap.Ns mainGlobals mg) (hb:s₁.heap.Ns builtinsNs mb) (hbb:∀x:Str,x≠"__name__"->mb x=bootBuiltins x) (hlim:s₁.heap.NoLimit) (hg:s₁.gens=#[])
  (ha:s₁.heap.get? a=some {cls:=.type "list",data:=.seq vs.toArray}) (hi:IntsAre vs ns) (hl:ns.length<=sizeLine) (hr:Room k callerA)
  (F:∀base:Heap,K.In base->base.Ns mainGlobals mg->FnOk P w K mg base CX k fa fd [x] sp) (hbind:∀(s:Shared) (u:Value),BindsTo s fd ⟨[u],[]⟩ [(x,u)])
  (hsp:∀H:Hp,b3G H->SqL K H a (ns.map V.int)->sp [.ref a] H (λv _=>v=.bl true) λ_ _ _=>False)
  (hCX:∀H e s',CX [] H s₁ (λ_ _ _=>False) e s'->False) :
  codeAny (model P w) callerA (.call (.ref fa) ⟨[.ref a],[]⟩) (λr s'=>r=.ok (.ret (.bool true))/\OldK s₁.heap s'.heap/\s'.os=s₁.os/\AllBare s'.gens) s₁:=by
 have rv:=a2h hi;have lenV:=hi.length;have core:∀H:Hp,b3G H->SqL K H a (ns.map V.int)->HOk P w H s₁.heap->(∀b,H b≠none->b=a)->(H a≠none->K.lookup a=none) ->
   codeAny (model P w) callerA (.call (.ref fa) ⟨[.ref a],[]⟩) (λr s'=>r=.ok (.ret (.bool true))/\OldK s₁.heap s'.heap/\s'.os=s₁.os/\AllBare s'.gens) s₁:=by
  intro H hO hS hok hA hK;have base_of:∀{b:Addr}{o:Obj},s₁.heap.get? b=some o->H b=none->(a3l s₁.heap H).get? b=some o:=λe n=>a8J e n;have noA:∀{b:Addr}{o:Obj}{es:Array DictEntry}{ep:Nat},s₁.heap.get? b=some o->o.data=.dict es ep->H b=none:=λ{b o es ep} e d=>by
   cases q:H b with
   |none=>rfl
   |some u =>
    have e':b=a:=hA b (by rw[q];simp);subst e';rw[ha]at e;cases e;have d':Data.seq vs.toArray _=Data.dict es ep:=d;cases d'
  have nsK:∀{b:Addr}{m:Str->Option Value},s₁.heap.Ns b m->(a3l s₁.heap H).Ns b m:=λ{b m} ⟨o,es,ep,e,d,r⟩=>⟨o,es,ep,base_of e (noA e d),d,r⟩;have hKb:K.In (a3l s₁.heap H):=λb o e=>base_of (KX b o e) (by
   cases q:H b with
   |none=>rfl
   |some u =>
    have e':b=a:=hA b (by rw[q];simp);subst e';rw[hK (by rw[q];simp)]at e;cases e)
  have hM:Mod K mg (a3l s₁.heap H):=⟨hKb,nsK hns,⟨mb,nsK hb,hbb⟩,let ⟨mc,h1,h2⟩:=hlim;⟨mc,nsK h1,h2⟩⟩;have e0:Env0 P w K mg (a3l s₁.heap H) callerA [] s₁ H:=⟨rfl,hM,λb o e=>b0f e,Nat.le_of_eq (a6x _ _),trivial,λb hb=>absurd (show b∈([]:List Addr)from hb) (by simp),hok,.of_eq hg⟩;refine codeAny_mono ((F _ hKb (nsK hns)).run callerA [] s₁ H ⟨[.ref a],[]⟩ [.ref a] [.ref a] _ _ hr e0 (hbind s₁ (.ref a)) (.cons rfl .nil) (hsp H hO hS)) λr s' h=>?_;cases r with
  |error e=>exact(hCX H e s' h).elim
  |ok fl =>
   cases fl with
   |next=>exact False.elim h
   |brk=>exact False.elim h
   |cont=>exact False.elim h
   |ret u =>
    obtain⟨v,H',os,bare,un,hok',r',q⟩:=h;have q':v=.bl true:=q;subst q';obtain rfl:u=Value.bool true:=r';refine⟨rfl,OldK.of_keep λb o e=>?_,os,bare⟩;cases q:H b with
    |none=>exact un.keep b o e q (by intro z;exact absurd (show b∈([]:List Addr)from z) (by simp)) (by simp)
    |some u =>
     rcases hO b with z|⟨ob,xs,z⟩
     .rw[q]at z;cases z
     .have z2:=un.frzs b ob _ z;obtain⟨e1,_⟩:=hok b _ z;obtain⟨e2,_⟩:=hok' b _ z2;rw[e]at e1;cases e1;exact e2
 cases hk:K.lookup a with
 |some o =>
  have e:=KX a o hk;rw[ha]at e;cases e;refine core (λ_=>none) (λ_=>.inl rfl) (.inr ⟨_,vs.toArray,_,hk,rfl,rfl,rfl,by rw[List.size_toArray,lenV];exact hl,by simpa using rv⟩) (λb u z=>by have z':(none:Option HO)=some u:=z;cases z') (λb z=>absurd rfl z) λz=>absurd rfl z
 |none =>
  refine core (λb=>if b=a then some (.frz {cls:=.type "list",data:=.seq vs.toArray} (.lst (ns.map V.int)))else none) (λb=>?_) (.inl (.inr ⟨{cls:=.type "list",data:=.seq vs.toArray},if_pos rfl⟩)) (λb u z=>?_) (λb z=>?_) λ_=>hk
  .by_cases hb:b=a
   .exact .inr ⟨_,_,if_pos hb⟩
   .exact .inl (if_neg hb)
  .by_cases hb:b=a
   .have z':=(if_pos hb).symm.trans z;cases z';subst hb;exact⟨ha,by rw[List.length_map];exact hl,vs,_,rv,ha⟩
   .have z':=(if_neg hb).symm.trans z;cases z'
  .by_cases hb:b=a
   .exact hb
   .exact absurd (if_neg hb) z
theorem walk_of{l:PySem.W.OpenLaw}{n k:Nat}{q:Program}{loose:List Str}{XP:(Str->Option Value)->Heap->Prop}{YP:World->Heap->Prop}{d:DefRec}{K:Params->PySem.W.Frag}{CX:World->CXT}{sp:World->Sp}{x:Str}
  (hn:l.most=some n) (hn2:n<=sizeLine) (hdf:d.params.defaults=[]) (hr:Room k callerA)
  (hY:∀(w:World) (h:Heap),YP w h->(K w.params).In h)
  (F:∀(w:World) (mg:Str->Option Value) (fa:Addr) (h:Heap),(K w.params).In h->h.Ns mainGlobals mg->mg d.name=some (.ref fa) ->
   ∃fd:FuncData,(∀(s:Shared) (u:Value),BindsTo s fd ⟨[u],[]⟩ [(x,u)]) /\
    ∀base:Heap,(K w.params).In base->base.Ns mainGlobals mg->FnOk l.prog w (K w.params) mg base (CX w) k fa fd [x] (sp w))
  (hsp:∀(w:World) (H:Hp) (a:Addr) (ns:List Int),ns.length<=n->b3G H->SqL (K w.params) H a (ns.map V.int)->sp w [.ref a] H (λv _=>v=.bl true) λ_ _ _=>False)
  (hCX:∀(w:World) (H:Hp) (s:Shared) (e:Value) (s':Shared),CX w [] H s (λ_ _ _=>False) e s'->False) :
  PySem.W.WalkO q loose XP YP l.row.toRowW d [] (λf vs=>PySem.call f vs):=by
 refine Att.attach_call hn hdf λw s₀ s₁ mg mb fa o pm cd doc a vs ns G Y ho hd hcd hmg hobj hints hlen hg=>?_;have KX:=hY w _ Y;obtain⟨fd,hb,hF⟩:=F w mg fa _ KX G.T.g hmg;exact a8u KX G.T.g G.T.b G.T.builtins G.T.nolimit hg hobj hints (Nat.le_trans hlen hn2) hr hF hb (λH hO hS=>hsp w H a ns hlen hO hS) λH e s'=>hCX w H s₁ e s'
end L2
namespace L2
open PySem PySem.Spec PyProof.Rows
noncomputable def a0b(s:Stmt)(j:Nat):Stmt:=match s with
 |.ClassDef _ _ _ body _ _ _ _ _ _ _=>body.getD j (.Pass ⟨0,0,0,0⟩)
 |_=>.Pass ⟨0,0,0,0⟩
noncomputable def Q5(s:Stmt):Arguments:=match s with
 |.FunctionDef _ a _ _ _ _ _ _ _ _=>a
 |_=>{posonlyargs:=[],args:=[],vararg:=none,kwonlyargs:=[],kw_defaults:=[],kwarg:=none,defaults:=[]}
noncomputable def G7(s:Stmt):List Stmt:=match s with
 |.FunctionDef _ _ b _ _ _ _ _ _ _=>b
 |_=>[]
noncomputable def A3(s:Stmt):Scope:=match s with
 |.FunctionDef _ _ _ _ _ _ sc _ _ _=>sc
 |_=>{kind:=.function,names:=[],isGenerator:=false,isCoroutine:=false}
abbrev CX0:CXT:=λ_ _ _ _ _ _=>False
abbrev E0:XK:=λ_ _ _=>False
theorem a5r{X:Cx}:X9 CX0 X E0:=λ_ _ _ _ _ _ _ h=>h.elim
structure Fun(K:PySem.W.Frag)(x qual:Str)(st:Stmt)(f:Addr)(fd:FuncData):Prop where
 ex:∃(oc:Value) (od:Option Addr) (kV doc pm:Value) (an:Option Addr) (cdv ct:Value) (osl:Array (Option Value)),
  fd=PySem.W.fnOf x qual (Q5 st) (G7 st) (A3 st) .none kV doc pm an cdv ct/\K.lookup f=some ⟨oc,od,.func fd,osl⟩/\PySem.W.codeIn K cdv qual=true
 kp:PySem.W.keepIn K (.ref f)=true
section
variable {P:Program}{w:World}{K:PySem.W.Frag}{mg:Str->Option Value}{base:Heap}
theorem Fun.ok{x qual:Str}{st:Stmt}{f:Addr}{fd:FuncData}{N ps:List Str}{k:Nat}{sp:Sp}(F:Fun K x qual st f fd)(S:FnScope N ps (A3 st))(len:∀vs H Q E,sp vs H Q E->vs.length=ps.length)
  (hbody:∀(cdv:Value) (A:Around) (outer:List Env) (s:Shared) (H:Hp) (vs:List V) (Q:VK) (E:XK),Room k (A.deeper (envOfC qual (A3 st) s.heap.objs.size f cdv))->sp vs H Q E ->
   ∃t,PSs (a2c CX0 P w K mg base N qual (A3 st) f cdv A outer s H E).nox (G7 st) t/\t {nx:=λ_ H'=>Q .non H',rt:=Q} (start N vs) H):FnOk P w K mg base CX0 (k+1) f fd ps sp:=by
 obtain⟨oc,od,kV,doc,pm,an,cdv,ct,osl,rfl,lk,hcd⟩:=F.ex;refine b4M lk hcd S len λA outer s H vs Q E hr hsp=>?_;obtain⟨t,h,q⟩:=hbody cdv A outer s H vs Q E hr hsp;exact⟨t,h.nox,q⟩
theorem Fun.binds{x qual:Str}{st:Stmt}{f:Addr}{fd:FuncData}{ps:List Str}(F:Fun K x qual st f fd)
  (h:∀(kV doc pm:Value) (an:Option Addr) (cdv ct:Value) (us:List Value),us.length=ps.length->bindArgs (PySem.W.fnOf x qual (Q5 st) (G7 st) (A3 st) .none kV doc pm an cdv ct) ⟨us,[]⟩=pure (ps.zip us)):Binds K fd ps []:=by
 obtain⟨oc,od,kV,doc,pm,an,cdv,ct,osl,rfl,lk,hcd⟩:=F.ex;exact .all (h kV doc pm an cdv ct)
theorem a1C{x qual:Str}{st:Stmt}{f:Addr}{oc:Value}{od an:Option Addr}{osl:Array (Option Value)}{kV doc pm cdv ct:Value}(l:K.lookup f=some ⟨oc,od,.func (PySem.W.fnOf x qual (Q5 st) (G7 st) (A3 st) .none kV doc pm an cdv ct),osl⟩)
  (c:PySem.W.codeIn K cdv qual=true) (k:PySem.W.keepIn K (.ref f)=true):Fun K x qual st f (PySem.W.fnOf x qual (Q5 st) (G7 st) (A3 st) .none kV doc pm an cdv ct):=⟨⟨oc,od,kV,doc,pm,an,cdv,ct,osl,rfl,l,c⟩,k⟩
end
section
variable {X:Cx}
theorem pv(i:Nat){x:Str}{pos:Pos}(hN:X.N[i]?=some x:=by rfl)(hv:Vis X.env.scope x:=by first|exact Or.inl rfl|exact Or.inr (Or.inl rfl)|exact Or.inr (Or.inr rfl))(hd:(x==("__debug__" : Str))=false:=by decide)
  (hcd:(x==("__classdict__" : Str))=false:=by decide):PE X (.Name x pos) (Y6 i):=a7Q hN hv hd hcd
end
theorem L6{A B:Prop}(h:B):if false=true then A else B:=by
 rw[if_neg Bool.false_ne_true];exact h
theorem R5{A B:Prop}(h:A):if true=true then A else B:=by
 rw[if_pos rfl];exact h
theorem C9{c A B:Prop}[Decidable c](h1:c->A)(h2:¬c->B):if c then A else B:=by
 by_cases h:c
 .rw[if_pos h];exact h1 h
 .rw[if_neg h];exact h2 h
def Same(H H':Hp):Prop:=∀b o,H b=some o->H' b=some o
theorem Same.refl(H:Hp):Same H H:=λ_ _ h=>h
theorem Same.trans{H H1 H2:Hp}(a:Same H H1)(b:Same H1 H2):Same H H2:=λc o h=>b c o (a c o h)
theorem Same.free{H H':Hp}(e:Same H H'){l:Addr}(h:H' l=Option.none):H l=Option.none:=by
 cases q:H l with
 |none=>rfl
 |some o =>
  rw[e l o q]at h;cases h
theorem Same.seq{K:PySem.W.Frag}{H H':Hp}{a:Addr}{xs:List V}(e:Same H H')(h:SqL K H a xs):SqL K H' a xs:=by
 rcases h with(h|⟨o,h⟩)|h
 .exact .inl (.inl (e _ _ h))
 .exact .inl (.inr ⟨o,e _ _ h⟩)
 .exact .inr h
noncomputable def J3(env:Env)(cs:List (Str×Addr))(x:Str×NameKind):List (Str×Addr) :=
 if x.2==.free then(match env.cells.lookup x.1 with|some a=>(x.1,a)::cs|none=>cs)else cs
noncomputable def a0N(scope:Scope)(env:Env):List (Str×Addr):=scope.names.foldl (J3 env) []
theorem a1L{env:Env}(f:Str×NameKind->List (Str×Addr)->Sem (ForInStep (List (Str×Addr))))
  (hf:∀n k r,f (n,k) r=if (k==NameKind.free)=true then(do let a <-cellOf env n;pure (ForInStep.yield ((n,a)::r)))else pure (ForInStep.yield r)) :
  ∀(names:List (Str×NameKind)) (cs:List (Str×Addr)),(∀x∈names,x.2=.free->∃a,env.cells.lookup x.1=some a)->forIn names cs f=pure (names.foldl (J3 env) cs)
 |[],cs,_=>rfl
 |(n,k)::r,cs,h=>by
  rw[List.forIn_cons,List.foldl_cons,hf];have hr:=λy hy=>h y (List.mem_cons_of_mem _ hy);by_cases hk:k=.free
  .subst hk;obtain⟨a,ha⟩:=h (n,NameKind.free) List.mem_cons_self rfl;have e1:cellOf env n=pure a:=by unfold cellOf;rw[ha]
   have e2:J3 env cs (n,NameKind.free)=(n,a)::cs:=by unfold J3;rw[ha];rfl
   rw[e2,<-a1L f hf r _ hr,e1];rfl
  .have hb:(k==NameKind.free)=false:=by simpa using hk
   have e2:J3 env cs (n,k)=cs:=by unfold J3;rw[hb];rfl
   rw[e2,<-a1L f hf r _ hr,hb];rfl
theorem a9a{scope:Scope}{env:Env}(h:∀x∈scope.names,x.2=.free->∃a,env.cells.lookup x.1=some a):closureFor scope env=pure (a0N scope env):=by
 simp only[closureFor];rw[a1L (env:=env) _ (λn k r=>by cases hkc:k==NameKind.free<;>simp[hkc]) scope.names [] h];rfl
theorem a2z{env:Env}{x:Str}{c:Addr}:∀(names:List (Str×NameKind)) (cs:List (Str×Addr)),(names.foldl (J3 env) cs).lookup x=some c->env.cells.lookup x=some c∨cs.lookup x=some c
 |[],cs,h=>.inr h
 |y::r,cs,h=>by
  rw[List.foldl_cons]at h;rcases a2z r _ h with z|z
  .exact .inl z
  .unfold J3 at z;split at z
   .split at z
    .rename_i a ha;rw[List.lookup_cons]at z;cases hb:x==y.1 with
     |true =>
      rw[hb]at z;rw[beq_iff_eq.mp hb];exact .inl (ha.trans z)
     |false =>
      rw[hb]at z;exact .inr z
    .exact .inr z
   .exact .inr z
theorem W6{scope:Scope}{env:Env}{x:Str}{c:Addr}(h:(a0N scope env).lookup x=some c):env.cells.lookup x=some c :=
 (a2z scope.names [] h).elim id λz=>by cases z
theorem X8{env:Env}{x:Str}{a:Addr}(ha:env.cells.lookup x=some a):∀(names:List (Str×NameKind)) (cs:List (Str×Addr)),((x,NameKind.free)∈names∨cs.lookup x=some a)->(∀c,cs.lookup x=some c->c=a)->(names.foldl (J3 env) cs).lookup x=some a
 |[],cs,h,_=>h.elim (λz=>by cases z) id
 |y::r,cs,h,hc=>by
  rw[List.foldl_cons];by_cases hy:y.2=.free/\y.1=x
  .have e2:J3 env cs y=(x,a)::cs:=by unfold J3;rw[hy.2,ha,hy.1];rfl
   rw[e2];have el:((x,a)::cs).lookup x=some a:=by rw[List.lookup_cons];simp
   exact X8 ha r _ (.inr el) λc z=>by rw[el]at z;exact(Option.some.inj z).symm
  .have same:(J3 env cs y).lookup x=cs.lookup x:=by
    unfold J3;split
    .rename_i hk;split
     .have hne:(x==y.1)=false:=by
       cases hb:x==y.1 with
       |false=>rfl
       |true=>exact absurd ⟨by simpa using hk,(beq_iff_eq.mp hb).symm⟩ hy
      rw[List.lookup_cons,hne]
     .rfl
    .rfl
   refine X8 ha r _ ?_ (by rw[same];exact hc);rw[same];rcases h with z|z
   .rcases List.mem_cons.mp z with e|z
    .exact absurd ⟨by rw[<-e],by rw[<-e]⟩ hy
    .exact .inl z
   .exact .inr z
theorem a4s{scope:Scope}{env:Env}{x:Str}{a:Addr}(ha:env.cells.lookup x=some a)(hx:(x,NameKind.free)∈scope.names):(a0N scope env).lookup x=some a :=
 X8 ha _ _ (.inl hx) λc z=>by cases z
theorem S1{x:Str}{c:Addr}:∀(names:List (Str×NameKind)) (n:Nat) (acc:List (Str×Addr)),(cellsFrom n names acc).lookup x=some c->(n<=c/\(x,NameKind.cell)∈names)∨acc.lookup x=some c
 |[],_,_,h=>.inr h
 |(y,k)::r,n,acc,h=>by
  unfold cellsFrom at h;split at h
  .rename_i hk;have hk':k=.cell:=by simpa using hk
   rcases S1 r _ _ h with⟨z1,z2⟩|z
   .exact .inl ⟨by omega,List.mem_cons_of_mem _ z2⟩
   .rw[List.lookup_cons]at z;cases hb:x==y with
    |true =>
     rw[hb]at z;cases z;exact .inl ⟨Nat.le_refl _,by rw[hk',beq_iff_eq.mp hb];exact List.mem_cons_self⟩
    |false =>
     rw[hb]at z;exact .inr z
  .rcases S1 r _ _ h with⟨z1,z2⟩|z
   .exact .inl ⟨z1,List.mem_cons_of_mem _ z2⟩
   .exact .inr z
theorem a4Y:∀(names:List (Str×NameKind)) (n:Nat) (acc:List (Str×Addr)),(∀x c,acc.lookup x=some c->c<n)->(∀x y c,acc.lookup x=some c->acc.lookup y=some c->x=y) ->
  ∀x y c,(cellsFrom n names acc).lookup x=some c->(cellsFrom n names acc).lookup y=some c->x=y
 |[],_,_,_,h2=>h2
 |(z,k)::r,n,acc,h1,h2=>by
  unfold cellsFrom;split
  .have lk:∀x c,List.lookup x ((z,n)::acc)=some c->(x=z/\c=n)∨acc.lookup x=some c:=λx c e=>by
    rw[List.lookup_cons]at e;cases hb:x==z with
    |true=>rw[hb]at e;cases e;exact .inl ⟨beq_iff_eq.mp hb,rfl⟩
    |false=>rw[hb]at e;exact .inr e
   refine a4Y r (n+1) _ (λx c e=>?_) λx y c e e'=>?_
   .rcases lk x c e with⟨_,q⟩|q
    .rw[q];exact Nat.lt_succ_self _
    .exact Nat.lt_succ_of_lt (h1 x c q)
   .rcases lk x c e with⟨q1,q2⟩|q<;>rcases lk y c e' with⟨p1,p2⟩|p
    .rw[q1,p1]
    .exact absurd (h1 y c p) (by rw[q2];exact Nat.lt_irrefl _)
    .exact absurd (h1 x c q) (by rw[p2];exact Nat.lt_irrefl _)
    .exact h2 x y c q p
  .exact a4Y r n acc h1 h2
theorem a3r{x:Str}:∀(names:List (Str×NameKind)) (n:Nat) (acc:List (Str×Addr)),((x,NameKind.cell)∈names∨∃c,acc.lookup x=some c)->∃c,(cellsFrom n names acc).lookup x=some c
 |[],_,_,h=>h.elim (λz=>by cases z) id
 |(y,k)::r,n,acc,h=>by
  unfold cellsFrom;split
  .rename_i hk;refine a3r r _ _ ?_;by_cases hx:x=y
   .exact .inr ⟨n,by rw[List.lookup_cons,hx];simp⟩
   .have hb:(x==y)=false:=beq_eq_false_iff_ne.mpr hx;rcases h with z|⟨c,z⟩
    .rcases List.mem_cons.mp z with e|z
     .exact absurd (Prod.mk.inj e).1 hx
     .exact .inl z
    .exact .inr ⟨c,by rw[List.lookup_cons,hb];exact z⟩
  .rename_i hk;refine a3r r _ _ ?_;rcases h with z|z
   .rcases List.mem_cons.mp z with e|z
    .exact absurd (by rw[<-(Prod.mk.inj e).2];rfl) hk
    .exact .inl z
   .exact .inr z
theorem a2W{x:Str}{c:Addr}:∀(names:List (Str×NameKind)) (h:Heap) (acc:List (Str×Addr)),(∀x c,acc.lookup x=some c->∃v,h.IsCell c v)->(cellsFrom h.objs.size names acc).lookup x=some c->∃v,(pushCells h names).IsCell c v
 |[],h,acc,ha,e=>ha x c e
 |(y,k)::r,h,acc,ha,e=>by
  unfold cellsFrom at e;unfold pushCells;split at e
  .rename_i hk;rw[if_pos hk];rw[show h.objs.size+1=(h.push {cls:=.type "cell",data:=.cell none}).objs.size from(Heap.size_push ..).symm]at e;refine a2W r _ _ (λx' c' e'=>?_) e;rw[List.lookup_cons]at e';cases hb:x'==y with
   |true=>rw[hb]at e';cases e';exact⟨_,_,Heap.get?_push_size _ rfl,rfl⟩
   |false =>
    rw[hb]at e';obtain⟨v,z⟩:=ha x' c' e';exact⟨v,z.keeps λb o q=>Heap.get?_push_of_some _ q⟩
  .rename_i hk;rw[if_neg hk];exact a2W r _ _ ha e
section
variable {M:Model}{A:Around}{E:Value->Shared->Prop}{s:Shared}
theorem a4w{scope:Scope}{globals:Addr}{closure:List (Str×Addr)}{qual:Str}{outer:Env}{Q:Env->Shared->Prop}
  (hQ:Q (newEnv scope s.heap.objs.size globals (cellsFrom (s.heap.objs.size+1) scope.names closure) qual none .none (some outer) builtinsNs) {s with heap:=pushCells (s.heap.push {cls:=.type "dict",data:=.dict #[]}) scope.names}) :
  wpAny M A (newFunctionEnv scope globals closure [] qual none .none (some outer)) Q E s:=by
 simp only[newFunctionEnv,Option.isSome_some,if_true];refine wpAny_bind (wpAny_alloc ?_);refine wpAny_bind (wpAny_layCells _ (λname kind cells=>by cases hkc:kind==NameKind.cell<;>simp[hkc]) _ _ _ _ ?_);rw[show({s with heap:=s.heap.push {cls:=.type "dict",data:=.dict #[]}}:Shared).heap.objs.size=s.heap.objs.size+1 from Heap.size_push ..];exact wpAny_bind (wpAny_pure (wpAny_pure hQ))
end
section
variable {prog:Program}{w:World}{A:Around}{s:Shared}
abbrev NoX:Value->Shared->Prop:=λ_ _=>False
theorem toE{α:Type}{M:Model}{A:Around}{t:Sem α}{Q Q':α->Shared->Prop}{E:Value->Shared->Prop}{s:Shared}(h:wpAny M A t Q NoX s)(hQ:∀a s,Q a s->Q' a s):wpAny M A t Q' E s :=
 wpAny_mono h hQ λ_ _ z=>z.elim
theorem a3q{elt target iter:Expr}{ifs:List Expr}{scope:Scope}{pos:Pos}{it acc:Value}{env:Env}{R:Result->Shared->Prop}(I:Nat->Shared->Prop)
  (turn:∀n s,I n s->wpAny (model prog w) A (pyNext it) (λr s₁=>match r with
   |none=>R (.ok .next) s₁
   |some v=>wpAny (model prog w) A (letOwnedTupleGo target it v) (λ_ s₂=>wpAny (model prog w) A (assign target env v) (λ_ s₃ =>
     wpAny (model prog w) A (forIn ifs true λc r=>if r=true then do let ok <-isTrue c env (eval c env);pure (ForInStep.yield ok)else pure (ForInStep.yield r)) (λok s₄ =>
      if ok=true then wpAny (model prog w) A (eval elt env) (λx s₅=>wpAny (model prog w) A (call (.builtin "list.append") [acc,x]) (λ_ s₆=>∃m,m<n/\I m s₆) NoX s₅) NoX s₄
      else ∃m,m<n/\I m s₄) NoX s₃) NoX s₂) NoX s₁) NoX s)
  (n:Nat) (h:I n s):codeAny (model prog w) A (.compLoop (.ListComp elt [⟨target,iter,ifs,0⟩] scope pos) 0 it acc env) R s:=by
 refine codeAny_loop rfl I (λn s hI=>?_) n h;show wpAny _ A ((compTurn (.ListComp elt [⟨target,iter,ifs,0⟩] scope pos) 0 it acc env).onRaise (λx=>do noteFrame x env;theTreesLotGoes x)) _ _ s;refine wpAny_noted ?_;rw[compTurn_list];refine wpAny_bind (wpAny_standAt (wpAny_bind (toE (turn n s hI) λr s₁ h₁=>?_)));cases r with
 |none=>exact wpAny_pure h₁
 |some v =>
  refine wpAny_bind (toE h₁ λ_ s₂ h₂=>wpAny_bind (toE h₂ λ_ s₃ h₃=>wpAny_bind (toE h₃ λok s₄ h₄=>?_)));cases ok with
  |false=>exact wpAny_pure ⟨rfl,h₄⟩
  |true=>exact wpAny_bind (wpAny_bind (toE h₄ λx s₅ h₅=>wpAny_bind (toE h₅ λ_ s₆ h₆=>wpAny_pure (wpAny_pure ⟨rfl,h₆⟩))))
end
noncomputable def Cx.blk(X:Cx)(N:List Str)(scope:Scope)(cells:List (Str×Addr))(C:Addr)(s:Shared)(H:Hp)(ex:List Addr):Cx :=
 {X with N:=N,s₀:=s,H₀:=H,env:=compEnvC scope cells C X.env,outer:=X.stack,stack:=X.stack,ex:=ex,fn:=λx=>scope.names.any λy=>y.1==x && y.2==.cell,pn:=[],xe:=NoX}
noncomputable def B8(src:List (Option Nat))(σ:St):St:=src.map λo=>o.bind λj=>(σ[j]?).join
noncomputable def D0(sc out:Scope):Bool:=sc.names.all λx=>x.2 != .free || (out.names.lookup x.1==some .cell || out.names.lookup x.1==some .free)
noncomputable def M4:List Str->List (Option Nat)->List Str->Scope->Bool
 |[],[],_,_=>true
 |x::N,o::src,M,sc=>(match o with|none=>true|some j=>M[j]? == some x && sc.names.lookup x==some .free) && M4 N src M sc
 |_,_,_,_=>false
noncomputable def a2S(sc:Scope):Bool:=sc.kind==.function && sc.names.all λx=>sc.names.lookup x.1==some x.2
theorem a2A:∀{N:List Str}{src:List (Option Nat)}{M:List Str}{sc:Scope},M4 N src M sc=true->src.length=N.length
 |[],[],_,_,_=>rfl
 |_::N,_::src,M,sc,h=>by
  unfold M4 at h;rw[Bool.and_eq_true]at h;rw[List.length_cons,List.length_cons,a2A h.2]
 |[],_::_,_,_,h=>by simp[M4]at h
 |_::_,[],_,_,h=>by simp[M4]at h
theorem a2B:∀{N:List Str}{src:List (Option Nat)}{M:List Str}{sc:Scope}{i:Nat}{x:Str}{j:Nat},M4 N src M sc=true->N[i]?=some x->src[i]?=some (some j)->M[j]?=some x/\sc.names.lookup x=some .free
 |[],[],_,_,_,_,_,_,h,_=>by simp at h
 |y::N,o::src,M,sc,0,x,j,h,h1,h2=>by
  unfold M4 at h;rw[Bool.and_eq_true]at h;simp at h1 h2;subst h1 h2;have q:=h.1;rw[Bool.and_eq_true]at q;exact⟨beq_iff_eq.mp q.1,beq_iff_eq.mp q.2⟩
 |y::N,o::src,M,sc,i+1,x,j,h,h1,h2=>by
  unfold M4 at h;rw[Bool.and_eq_true]at h;exact a2B h.2 (by simpa using h1) (by simpa using h2)
 |[],_::_,_,_,_,_,_,h,_,_=>by simp[M4]at h
 |_::_,[],_,_,_,_,_,h,_,_=>by simp[M4]at h
theorem a6X{src:List (Option Nat)}{σ:St}{i:Nat}{v:V}(h:(B8 src σ)[i]?=some (some v)):∃j,src[i]?=some (some j)/\σ[j]?=some (some v):=by
 unfold B8 at h;rw[List.getElem?_map]at h;cases e:src[i]? with
 |none=>rw[e]at h;cases h
 |some o =>
  rw[e]at h;cases o with
  |none=>cases h
  |some j =>
   refine⟨j,rfl,?_⟩;have h':(σ[j]?).join=some v:=Option.some.inj h;cases q:σ[j]? with
   |none=>rw[q]at h';cases h'
   |some z=>rw[q]at h';rw[show z=some v from h']
theorem U7{env:Env}:∀{names:List (Str×NameKind)}{x:Str}{k:NameKind},
  (names.map λ(n,k)=>if (k==NameKind.free && env.scope.kind==.function && env.kindOf n==some .cell)then(n,NameKind.cell)else(n,k)).lookup x=some k ->
  ∃k',names.lookup x=some k'/\(k=k'∨(k'=.free/\k=.cell))
 |[],_,_,h=>by cases h
 |(n,k0)::r,x,k,h=>by
  rw[List.map_cons,List.lookup_cons]at h;rw[List.lookup_cons];dsimp only at h;split at h
  .rename_i h0;have hb:x==n:=by
    split at h0<;>exact h0
   rw[hb];refine⟨k0,rfl,?_⟩;split at h
   .rename_i hc;cases h;simp only[Bool.and_eq_true]at hc;exact .inr ⟨by simpa using hc.1.1,rfl⟩
   .cases h;exact .inl rfl
  .rename_i h0;have hb:(x==n)=false:=by
    split at h0<;>exact h0
   rw[hb];exact U7 h
theorem K1{env:Env}:∀{names:List (Str×NameKind)}{x:Str}{k':NameKind},names.lookup x=some k' ->
  ∃k,(names.map λ(n,k)=>if (k==NameKind.free && env.scope.kind==.function && env.kindOf n==some .cell)then(n,NameKind.cell)else(n,k)).lookup x=some k/\(k=k'∨(k'=.free/\k=.cell))
 |[],_,_,h=>by cases h
 |(n,k0)::r,x,k',h=>by
  rw[List.lookup_cons]at h;rw[List.map_cons];by_cases hc:(k0==NameKind.free && env.scope.kind==.function && env.kindOf n==some .cell)=true
  .simp only[hc,if_true];rw[List.lookup_cons];cases hb:x==n with
   |true =>
    rw[hb]at h;cases h;simp only[Bool.and_eq_true]at hc;exact⟨_,rfl,.inr ⟨by simpa using hc.1.1,rfl⟩⟩
   |false=>rw[hb]at h;exact K1 h
  .simp only[if_neg hc];rw[List.lookup_cons];cases hb:x==n with
   |true=>rw[hb]at h;cases h;exact⟨_,rfl,.inl rfl⟩
   |false=>rw[hb]at h;exact K1 h
def PIf(X:Cx)(ifs:List Expr)(t:TT):Prop :=
 ∀(pins:List (Addr×Obj)) (s:Shared) (σ:St) (H:Hp) (Q:Bool->Hp->Prop),Inv X pins σ H s->t σ H Q ->
  wpAny (model X.prog X.w) X.A (forIn ifs true λc r=>if r=true then do let ok <-isTrue c X.env (eval c X.env);pure (ForInStep.yield ok)else pure (ForInStep.yield r)) (TP X pins σ Q) X.xe s
def Y7:TT:=λ_ H Q=>Q true H
theorem a9H{X:Cx}:PIf X [] Y7:=λpins s σ H Q I h=>wpAny_tests_nil ⟨H,I,h⟩
theorem a9G{X:Cx}{c:Expr}{t:TT}(h:PT X c t):PIf X [c] t:=λpins s σ H Q I q=>wpAny_tests_one (h pins s σ H Q I q)
def Sub(σ σ':St):Prop:=σ.length=σ'.length/\∀(i:Nat) (v:V),σ[i]?=some (some v)->σ'[i]?=some (some v)
def L9(src:List (Option Nat))(g:TG)(tt:TT)(te:TE)(σ:St)(Q:VK)(J:It)(H1:Hp):Prop :=
 ∃W:Nat->Nat->List V->Hp->Prop,(∃m,W 0 m [] H1)/\∀i m ys H,W i m ys H ->
  (J.stop i H/\ys.length<=sizeLine/\∀p,H p=none->Q (.ref p) (upd H p (.lst ys))) ∨
  (J.go i H/\ys.length<sizeLine/\∃N:List V->Hp->Prop,(∀zs H',N zs H'->∃m',m'<m/\W (i+1) m' zs H')/\∀x H',J.yld i H x H'->g x (B8 src σ) H' λσ2 H2=>Sub (B8 src σ) σ2/\tt σ2 H2 λb H3 =>
   if b=true then te σ2 H3 λv H4=>N (ys++[v]) H4 else N ys H3)
def a3C(src:List (Option Nat))(wi:TI)(g:TG)(tt:TT)(te:TE):TE:=λσ H Q=>wi σ H (L9 src g tt te σ Q)
section
variable {X:Cx}{pins:List (Addr×Obj)}{σ:St}{H:Hp}{s:Shared}
theorem Inv.block{N:List Str}{src:List (Option Nat)}{scope:Scope}{fp:List Addr}(I:Inv X pins σ H s)(hf:∀b∈fp,a0x X pins H b)(ho:∀b∈fp,∃o,s.heap.get? b=some o)
  (hcap:D0 scope X.env.scope=true) (hblk:M4 N src X.N scope=true) (hsc:a2S scope=true) {lo:Obj} :
  Inv (X.blk N scope (cellsFrom (s.heap.objs.size+2) scope.names (a0N scope X.env)) (s.heap.objs.size+1) s H fp) [] (B8 src σ) H
   {s with heap:=pushCells ((s.heap.push lo).push {cls:=.type "dict",data:=.dict #[]}) scope.names}:=by
 unfold a2S at hsc;rw[Bool.and_eq_true]at hsc;have hkind:scope.kind=.function:=by simpa using hsc.1
 have hnd:∀x∈scope.names,scope.names.lookup x.1=some x.2:=λx hx=>by simpa using List.all_eq_true.mp hsc.2 x hx
 have hfree:∀x∈scope.names,x.2=.free->X.env.kindOf x.1=some .cell∨X.env.kindOf x.1=some .free:=λx hx hk=>by
  have q:=List.all_eq_true.mp hcap x hx;rw[hk]at q;have q':(X.env.scope.names.lookup x.1==some .cell || X.env.scope.names.lookup x.1==some .free)=true:=by simpa using q
  rw[Bool.or_eq_true]at q';exact q'.imp (λz=>beq_iff_eq.mp z) λz=>beq_iff_eq.mp z
 have keep:∀b o,s.heap.get? b=some o->(pushCells ((s.heap.push lo).push {cls:=.type "dict",data:=.dict #[]}) scope.names).get? b=some o:=λb o e =>
  pushCells_keeps _ _ _ _ (Heap.get?_push_of_some _ (Heap.get?_push_of_some _ e))
 have clc:∀x c,(a0N scope X.env).lookup x=some c->c<s.heap.objs.size:=λx c e=>by
  obtain⟨v,z⟩:=I.cell x c (W6 e);exact z.lt
 have cases':∀x c,(cellsFrom (s.heap.objs.size+2) scope.names (a0N scope X.env)).lookup x=some c->(s.heap.objs.size+2<=c/\(x,NameKind.cell)∈scope.names)∨X.env.cells.lookup x=some c:=λx c e =>
  (S1 _ _ _ e).imp id W6
 have kof:∀x k,(compEnvC scope (cellsFrom (s.heap.objs.size+2) scope.names (a0N scope X.env)) (s.heap.objs.size+1) X.env).kindOf x=some k->∃k',scope.names.lookup x=some k'/\(k=k'∨(k'=.free/\k=.cell)):=λx k e =>
  U7 (env:=X.env) e
 have mem:∀{x k},scope.names.lookup x=some k->(x,k)∈scope.names:=λe=>mem_of_lookup e;refine⟨⟨I.ok.mod,?_,I.ok.glob,I.ok.blt,?_,?_,?_,?_,I.ok.hd,I.ok.frames,.inl rfl,?_,I.bs,Nat.le_trans I.ok.bsz I.sz,?_,?_,I.stack,I.stkFree⟩,rfl,I.bare,Un.kept keep,?_,?_,?_,?_,?_,I.hok.kept keep,?_⟩
 .exact hkind
 .exact Nat.le_succ _
 .-- inj
  refine a4Y _ _ _ (λx c e=>?_) λx y c e e'=>I.ok.inj x y c (W6 e) (W6 e');exact Nat.lt_of_lt_of_le (clc x c e) (Nat.le_add_right _ 2)
 .-- has
  intro x hx;refine a3r _ _ _ ?_;have hk:∃k',scope.names.lookup x=some k'/\(k'=.cell∨k'=.free):=by
   rcases hx with hx|hx
   .obtain⟨k',e,z⟩:=kof x _ hx;exact⟨k',e,z.elim (λz=>.inl z.symm) λz=>.inr z.1⟩
   .obtain⟨k',e,z⟩:=kof x _ hx;exact⟨k',e,z.elim (λz=>.inr z.symm) λz=>by cases z.2⟩
  obtain⟨k',e,rfl|rfl⟩:=hk
  .exact .inl (mem e)
  .obtain⟨a,ha⟩:=I.ok.has x (hfree _ (mem e) rfl);exact .inr ⟨a,a4s ha (mem e)⟩
 .-- cab
  intro x c hx e;rcases cases' x c e with z|z
  .exact Nat.le_trans (Nat.le_add_right _ 2) z.1
  .-- x is the block's own cell, so it is not in the closure's part
   exfalso;obtain⟨y,hy,hyx⟩:=List.any_eq_true.mp hx;rw[Bool.and_eq_true]at hyx;have e1:y.1=x:=beq_iff_eq.mp hyx.1;have e2:y.2=.cell:=by simpa using hyx.2
   have l1:scope.names.lookup x=some .cell:=by rw[<-e1,<-e2];exact hnd y hy
   rcases S1 _ _ _ e with q|q
   .obtain⟨v,z'⟩:=I.cell x c z;exact absurd (Nat.lt_of_lt_of_le z'.lt (Nat.le_trans (Nat.le_add_right _ 2) q.1)) (Nat.lt_irrefl _)
   .-- the closure holds free names alone
    have fr:∀(names:List (Str×NameKind)) (cs:List (Str×Addr)),(names.foldl (J3 X.env) cs).lookup x=some c->(x,NameKind.free)∈names∨cs.lookup x=some c:=by
     intro names;induction names with
     |nil=>intro cs h;exact .inr h
     |cons n r ih =>
      intro cs h;rw[List.foldl_cons]at h;rcases ih _ h with w|w
      .exact .inl (List.mem_cons_of_mem _ w)
      .unfold J3 at w;split at w
       .rename_i hk;split at w
        .rw[List.lookup_cons]at w;cases hb:x==n.1 with
         |true =>
          have:n=(x,NameKind.free):=Prod.ext (beq_iff_eq.mp hb).symm (by simpa using hk);exact .inl (by rw[this];exact List.mem_cons_self)
         |false=>rw[hb]at w;exact .inr w
        .exact .inr w
       .exact .inr w
    rcases fr _ _ q with w|w
    .have:=hnd _ w;rw[l1]at this;cases this
    .cases w
 .-- exf
  intro b hb;obtain⟨o,e⟩:=ho b hb;have lt:=Heap.lt_size e;refine⟨Nat.ne_of_lt (Nat.lt_succ_of_lt lt),λx c hc=>?_⟩;rcases cases' x c hc with z|z
  .exact Nat.ne_of_gt (Nat.lt_of_lt_of_le lt (Nat.le_trans (Nat.le_add_right _ 2) z.1))
  .exact(hf b hb).2.2.2.2.1 x c z
 .-- noex
  intro b o e hb;rcases(hf b hb).2.2.2.1 with z|z
  .exact I.ok.noex b o e z
  .exact absurd (Nat.lt_of_lt_of_le (Heap.lt_size (I.ok.bs b o e).1) z) (Nat.lt_irrefl _)
 .-- exfs
  intro b hb z;rcases List.mem_cons.mp (I.stkSub b z)with q|q
  .exact(hf b hb).2.1 q
  .exact(hf b hb).2.2.1 q
 .-- loc
  refine⟨λ_=>none,?_,λi x v e1 e2 e3=>?_⟩
  .have:=(Heap.Ns.new (s.heap.push lo) (.type "dict")).keeps (pushCells_keeps scope.names _);rw[Heap.size_push]at this;exact this
  .obtain⟨j,e4,e5⟩:=a6X e2;obtain⟨e6,e7⟩:=a2B hblk e1 e4;obtain⟨m,_,hl⟩:=I.loc;have hk:=hfree _ (mem e7) rfl;have hv:Vis X.env.scope x:=.inr (hk.imp id id);obtain⟨u,r,l⟩:=hl j x v e6 e5 hv;refine⟨u,r,.inr ⟨?_,?_⟩⟩
   .obtain⟨k,q,z⟩:=K1 (env:=X.env) e7;rcases z with z|z
    .exact .inr (by rw[<-z];exact q)
    .exact .inl (by rw[<-z.2];exact q)
   .rcases l with l|⟨_,c,hc,z⟩
    .exfalso;rcases hk with hk|hk<;>rw[l.1]at hk<;>cases hk
    .refine⟨c,?_,z.keeps keep⟩;have own:¬(x,NameKind.cell)∈scope.names:=λw=>by
      have:=hnd _ w;rw[e7]at this;cases this
     obtain⟨c',q⟩:=a3r (x:=x) scope.names (s.heap.objs.size+2) (a0N scope X.env) (.inr ⟨c,a4s hc (mem e7)⟩);rcases cases' x c' q with w|w
     .exact absurd w.2 own
     .rw[hc]at w;cases w;exact q
 .-- cell
  intro x c e;have e':(cellsFrom ((s.heap.push lo).push {cls:=.type "dict",data:=.dict #[]}).objs.size scope.names (a0N scope X.env)).lookup x=some c:=by
   rw[Heap.size_push,Heap.size_push];exact e
  refine a2W _ _ _ (λx' c' q=>?_) e';obtain⟨v,z⟩:=I.cell x' c' (W6 q);exact⟨v,z.keeps λb o q=>Heap.get?_push_of_some _ (Heap.get?_push_of_some _ q)⟩
 .exact I.hok.fresh (Nat.le_succ _)
 .intro x c e;rcases cases' x c e with z|z
  .exact I.hok.fresh (Nat.le_trans (Nat.le_add_right _ 2) z.1)
  .exact I.freeC x c z
 .intro p hp;cases hp
 .show(B8 src σ).length=N.length;unfold B8;rw[List.length_map];exact a2A hblk
theorem Inv.unblock{N:List Str}{scope:Scope}{cells:List (Str×Addr)}{C acc:Addr}{fp:List Addr}{pins':List (Addr×Obj)}{σ':St}{H':Hp}{s':Shared}{h':Heap}{ys:List V}{us:List Value}{n:Nat}
  (I:Inv X pins σ H s) (hf:∀b∈fp,a0x X pins H b) (hC:s.heap.objs.size<=C) (ha:s.heap.objs.size<=acc) (hne:acc≠C) (J:Inv (X.blk N scope cells C s H fp) pins' σ' H' s')
  (hn:H' acc=none) (hl:s'.heap.get? acc=some {cls:=.type "list",data:=.seq us.toArray n}) (hv:Vals ys us) (hz:ys.length<=sizeLine) (hb:Heap.SameBut C s'.heap h') :
  Inv X pins σ (upd H' acc (.lst ys)) {s' with heap:=h'}:=by
 have base:Un (frs X.stack) fp H H' s.heap s'.heap:=J.base;have kp:∀b o,b≠C->s'.heap.get? b=some o->h'.get? b=some o:=λb o q e=>hb.extBut b o q e;have old:∀b o,s.heap.get? b=some o->b≠C/\b≠acc:=λb o e=>by
  have:=Heap.lt_size e;exact⟨Nat.ne_of_lt (Nat.lt_of_lt_of_le this hC),Nat.ne_of_lt (Nat.lt_of_lt_of_le this ha)⟩
 have frC:H' C=none:=J.free;have hacc:H acc=none:=I.hok.fresh ha;have hokh:HOk X.prog X.w H' s'.heap:=J.hok;have ok':HOk X.prog X.w (upd H' acc (.lst ys)) h':=by
  intro b o e;by_cases hba:b=acc
  .subst hba;rw[A0]at e;cases e;exact⟨hz,us,n,hv,kp _ _ hne hl⟩
  .rw[A6 hba]at e;refine(hokh b o e).stay (λc u hc q=>kp c u ?_ q) (λc q=>?_) λc xs q=>?_
   .rintro rfl;rcases hc with rfl|hc
    .rw[frC]at e;cases e
    .rw[frC]at hc;cases hc
   .rw[A6 (by rintro rfl;rw[hn]at q;cases q)];exact q
   .rw[A6 (by rintro rfl;rw[hn]at q;cases q)];exact q
 have neA:∀b u,H b=some u->b≠acc:=λb u e=>by rintro rfl;rw[hacc]at e;cases e
 refine I.call' (s':={s' with heap:=h'}) (ch:=fp) (J.os) ⟨λb o e q r t=>?_,λb o e q r t=>?_,λb o e q t=>?_,λb o e t=>?_,λb xs e=>?_,λb o u e=>?_,λb ps e=>?_⟩ ok' J.bare λb hb=>?_
 .exact kp b o (old b o e).1 (base.keep b o e q r t)
 .obtain⟨sl,z⟩:=base.slot b o e q r t;exact⟨sl,kp b _ (old b o e).1 z⟩
 .rw[A6 (old b o e).2];exact base.free b o e q t
 .obtain⟨o',z⟩:=base.there b o e t;exact⟨o',kp b _ (old b o e).1 z⟩
 .rw[A6 (neA b _ e)];exact base.tups b xs e
 .rw[A6 (neA b _ e)];exact base.frzs b o u e
 .rw[A6 (neA b _ e)];exact base.tbls b ps e
 .obtain⟨_,h1,_,h3,h4,h5⟩:=hf b hb;exact⟨h3,h1,h4,h5⟩
set_option maxHeartbeats 4000000 in
theorem a2y{tg iter elt:Expr}{ifs:List Expr}{scope:Scope}{pos:Pos}{N:List Str}{src:List (Option Nat)}{wi:TI}{g:TG}{tt:TT}{te:TE}{Q:VK}{RR:Value->Addr->Result->Shared->Prop}(hc:X.calm=true)(hi:PI X tg iter wi)
  (hcap:D0 scope X.env.scope=true) (hblk:M4 N src X.N scope=true) (hsc:a2S scope=true)
  (hg:∀cells C s H ex,PG (X.blk N scope cells C s H ex) tg g) (ht:∀cells C s H ex,PIf (X.blk N scope cells C s H ex) ifs tt) (he:∀cells C s H ex,PE (X.blk N scope cells C s H ex) elt te)
  (I:Inv X pins σ H s) (h:a3C src wi g tt te σ H Q)
  (hend:∀(s2 s4:Shared) (H2 H4:Hp) (fp:List Addr) (cells:List (Str×Addr)) (pl:List (Addr×Obj)) (σ4:St) (ys:List V) (us:List Value) (k:Nat),Inv X pins σ H2 s2->(∀b∈fp,a0x X pins H2 b) ->
   Inv (X.blk N scope cells (s2.heap.objs.size+1) s2 H2 fp) pl σ4 H4 s4->H4 s2.heap.objs.size=none->s4.heap.get? s2.heap.objs.size=some {cls:=.type "list",data:=.seq us.toArray k}->Vals ys us->ys.length<=sizeLine ->
   Q (.ref s2.heap.objs.size) (upd H4 s2.heap.objs.size (.lst ys))->RR (.ref s2.heap.objs.size) (s2.heap.objs.size+1) (.ok .next) s4) :
  wpAny (model X.prog X.w) X.A (eval iter X.env) (λx s₁=>wpAny (model X.prog X.w) X.A (pyIter x) (λit s₂=>wpAny (model X.prog X.w) X.A (newList []) (λacc s₃ =>
   wpAny (model X.prog X.w) X.A (newFunctionEnv scope X.env.globals (a0N scope X.env) [] X.env.qual none .none (some X.env)) (λcenv s₄ =>
    codeAny (model X.prog X.w) X.A (.compStart (.ListComp elt [⟨tg,iter,ifs,0⟩] scope pos) 0 it acc {cenv with scope:=relabel scope X.env}) (RR acc cenv.locals) s₄) X.xe s₃) X.xe s₂) X.xe s₁) X.xe s:=by
 refine thn (hi pins s σ H _ I h) λv s1 h1=>thn h1 λitv s2 h2=>?_;obtain⟨it,fp,tn,J,H2,e,I2,T,st2,f2,W,⟨m0,w0⟩,turn⟩:=h2;subst e;have ho2:∀b∈fp,∃o,s2.heap.get? b=some o:=λb hb=>(T.obj _ _ st2 b hb).imp λ_ q=>q.1;refine wpAny_newObj_type (a4w ?_);have hB:=I2.block (lo:={cls:=.type "list",dict:=none,data:=.seq ([]:List Value).toArray}) f2 ho2 hcap hblk hsc;rw[show({s2 with heap:=s2.heap.push {cls:=.type "list",dict:=none,data:=.seq ([]:List Value).toArray}}:Shared).heap.objs.size=s2.heap.objs.size+1 from Heap.size_push ..];generalize hcells:cellsFrom (s2.heap.objs.size+1+1) scope.names (a0N scope X.env)=cells at hB⊢;generalize hheap:pushCells ((s2.heap.push {cls:=.type "list",dict:=none,data:=.seq ([]:List Value).toArray}).push {cls:=.type "dict",data:=.dict #[]}) scope.names=h4 at hB⊢;have keep4:∀b o,s2.heap.get? b=some o->h4.get? b=some o:=λb o q=>by
  rw[<-hheap];exact pushCells_keeps _ _ _ _ (Heap.get?_push_of_some _ (Heap.get?_push_of_some _ q))
 have acc4:h4.get? s2.heap.objs.size=some {cls:=.type "list",data:=.seq ([]:List Value).toArray 0}:=by
  rw[<-hheap];exact pushCells_keeps _ _ _ _ (Heap.get?_push_of_some _ (Heap.get?_push_size _ rfl))
 have st4:tn 0 h4:=T.keep _ _ _ st2 λb _ o q=>keep4 b o q;generalize hXc:X.blk N scope cells (s2.heap.objs.size+1) s2 H2 fp=Xc at hB;have eA:Xc.A=X.A:=by rw[<-hXc];rfl
 have eP:Xc.prog=X.prog:=by rw[<-hXc];rfl
 have ew:Xc.w=X.w:=by rw[<-hXc];rfl
 have eK:Xc.K=X.K:=by rw[<-hXc];rfl
 have ec:Xc.calm=true:=by rw[<-hXc];exact hc
 have ee:Xc.env=compEnvC scope cells (s2.heap.objs.size+1) X.env:=by rw[<-hXc];rfl
 have ex:Xc.ex=fp:=by rw[<-hXc];rfl
 have epn:Xc.pn=[]:=by rw[<-hXc];rfl
 have es0:Xc.s₀=s2:=by rw[<-hXc];rfl
 have exe:Xc.xe=NoX:=by rw[<-hXc];rfl
 have eL:Xc.env.locals=s2.heap.objs.size+1:=by rw[ee];rfl
 have efs:Xc.fs=frs X.stack:=by rw[<-hXc];rfl
 have okB:=hB.ok;have cne:∀x c,Xc.env.cells.lookup x=some c->c≠s2.heap.objs.size:=λx c q=>by
  rw[ee]at q;have q':cells.lookup x=some c:=q;rw[<-hcells]at q';rcases S1 _ _ _ q' with z|z
  .exact Nat.ne_of_gt (Nat.lt_of_lt_of_le (Nat.lt_succ_self _) (Nat.le_trans (Nat.le_succ _) z.1))
  .obtain⟨v,z'⟩:=I2.cell x c (W6 z);exact Nat.ne_of_lt z'.lt
 have fpne:∀b∈fp,b≠s2.heap.objs.size:=λb hb=>by
  obtain⟨o,q⟩:=ho2 b hb;exact Nat.ne_of_lt (Heap.lt_size q)
 have accfs:s2.heap.objs.size∉Xc.fs:=by
  rw[efs];intro z;rcases List.mem_cons.mp (I2.stkSub _ z)with q|q
  .exact absurd I2.lt (by rw[<-q];exact Nat.lt_irrefl _)
  .exact I2.nofs (Nat.le_refl _) q
 have stat:∀{H':Hp}{pl:List (Addr×Obj)},(∀b∈fp,H' b=none)->(∀p∈pl,p.1=s2.heap.objs.size)->∀b∈fp,a0x Xc pl H' b:=λ{H' pl} hn hp b hb=>by
  obtain⟨x1,x2⟩:=okB.exf b (by rw[ex];exact hb);refine⟨hn b hb,x1,okB.exfs b (by rw[ex];exact hb),.inl (by rw[ex];exact hb),x2,λp hp'=>?_⟩;rw[epn,List.nil_append]at hp';rw[hp p hp'];exact(fpne b hb).symm
 have main:∀s5:Shared,s5={s2 with heap:=h4}->codeAny (model X.prog X.w) X.A (.compLoop (.ListComp elt [⟨tg,iter,ifs,0⟩] scope pos) 0 (.ref it) (.ref s2.heap.objs.size) Xc.env)
   (RR (.ref s2.heap.objs.size) (s2.heap.objs.size+1)) s5:=by
  rintro s5 rfl;refine a3q (λn s'=>∃i H' ys us k,Inv Xc [] (B8 src σ) H' s'/\tn i s'.heap/\(∀b∈fp,H' b=none)/\H' s2.heap.objs.size=none /\
   s'.heap.get? s2.heap.objs.size=some {cls:=.type "list",data:=.seq (us:List Value).toArray k}/\Vals ys us/\W i n ys H') ?_ m0
   ⟨0,H2,[],[],0,hB,st4,λb hb=>(f2 b hb).1,I2.hok.fresh (Nat.le_refl _),acc4,.nil,w0⟩
  rintro n s3 ⟨i,H3,ys,us,k,I3,st3,fr3,na3,ac3,r3,w3⟩;rcases turn i n ys H3 w3 with⟨stop,hz,qn⟩|⟨go,hz,Nn,hN,step⟩
  .have d:=T.done Xc eP ew eK ec i [] s3 (B8 src σ) H3 NoX I3 (stat fr3 (λ_ z=>by cases z)) st3 stop;rw[eA]at d;have I3':Inv Xc [(s2.heap.objs.size,{cls:=.type "list",data:=.seq us.toArray k})] (B8 src σ) H3 s3:=I3.pins_of λp hp=>by
    rw[List.mem_singleton.mp hp];exact⟨ac3,na3,by rw[eL];exact Nat.ne_of_lt (Nat.lt_succ_self _),accfs,λv z=>by cases z⟩
   have d:=T.done Xc eP ew eK ec i _ s3 (B8 src σ) H3 NoX I3' (stat fr3 (λp z=>by rw[List.mem_singleton.mp z])) st3 stop;rw[eA]at d;refine thn d λr s4 ⟨hr,I4⟩=>?_;subst hr;have ac4:=(I4.pin (s2.heap.objs.size,{cls:=.type "list",data:=.seq us.toArray k}) (List.mem_append_right _ List.mem_cons_self)).1;rw[<-hXc]at I4;exact hend s2 s4 H2 H3 fp cells _ _ ys us k I2 f2 I4 na3 ac4 r3 hz (qn _ na3)
  .have I3':Inv Xc [(s2.heap.objs.size,{cls:=.type "list",data:=.seq us.toArray k})] (B8 src σ) H3 s3:=I3.pins_of λp hp=>by
    rw[List.mem_singleton.mp hp];exact⟨ac3,na3,by rw[eL];exact Nat.ne_of_lt (Nat.lt_succ_self _),accfs,λv z=>by cases z⟩
   have d:=T.item Xc eP ew eK ec i _ s3 (B8 src σ) H3 NoX I3' (stat fr3 (λp z=>by rw[List.mem_singleton.mp z])) st3 go;rw[eA]at d;refine thn d λr s4 ⟨u,hr,h4'⟩=>?_;subst hr;refine thn h4' λ_ s5 ⟨x,H5,I5,r5,y5,st5,fr5⟩=>?_;have I5':=I5.pinned (stat fr5 (λp z=>by rw[List.mem_singleton.mp z])) (T.obj _ _ st5);have hgX:PG Xc tg g:=by rw[<-hXc];exact hg _ _ _ _ _
   have htX:PIf Xc ifs tt:=by rw[<-hXc];exact ht _ _ _ _ _
   have heX:PE Xc elt te:=by rw[<-hXc];exact he _ _ _ _ _
   have a1:=hgX _ s5 _ H5 x u _ I5' r5 (step x H5 y5);rw[eP,ew,eA,exe]at a1;refine thn a1 λ_ s6 ⟨σ6,H6,I6,sb,q6⟩=>?_;have a2:=htX _ s6 σ6 H6 _ I6 q6;rw[eP,ew,eA,exe]at a2;refine thn a2 λok s7 ⟨H7,I7,q7⟩=>?_;have back:∀{H8:Hp}{s8:Shared}{pl:List (Addr×Obj)},Inv Xc ([(s2.heap.objs.size,{cls:=.type "list",data:=.seq us.toArray k})]++a1k fp s5.heap) σ6 H8 s8 ->
     Inv Xc [] (B8 src σ) H8 s8/\tn (i+1) s8.heap/\(∀b∈fp,H8 b=none)/\H8 s2.heap.objs.size=none/\s8.heap.get? s2.heap.objs.size=some {cls:=.type "list",data:=.seq us.toArray k}:=λ{H8 s8 pl} I8=>by
    have p0:=I8.pin (s2.heap.objs.size,{cls:=.type "list",data:=.seq us.toArray k}) (List.mem_append_right _ (List.mem_append_left _ List.mem_cons_self));refine⟨(I8.pins_of (pins':=[]) λp hp=>by cases hp).weak sb.1 sb.2,T.keep _ _ _ st5 λb hb o e=>(I8.pin (b,o) (List.mem_append_right _ (List.mem_append_right _ (S9 hb e)))).1,λb hb=>?_,p0.2.1,p0.1⟩;obtain⟨o,e,_⟩:=T.obj _ _ st5 b hb;exact(I8.pin (b,o) (List.mem_append_right _ (List.mem_append_right _ (S9 hb e)))).2.1
   cases ok with
   |false =>
    obtain⟨m',hm,w7⟩:=hN _ _ q7;obtain⟨b1,b2,b3,b4,b5⟩:=back (pl:=[]) I7;exact⟨m',hm,i+1,H7,ys,us,k,b1,b2,b3,b4,b5,r3,w7⟩
   |true =>
    have a3:=heX _ s7 σ6 H7 _ I7 q7;rw[eP,ew,eA,exe]at a3;refine thn a3 λy s8 ⟨vy,H8,I8,ry,n8⟩=>?_;obtain⟨m',hm,w8⟩:=hN _ _ n8;obtain⟨b1,b2,b3,b4,b5⟩:=back (pl:=[]) I8;refine call_meets F.slot_list_append ⟨_,b5,rfl⟩ F.entry_list_append (F.args_list_append_2 _ _) (PySem.list_append s2.heap.objs.size us.toArray k y (by rw[List.size_toArray,<-r3.length];omega)) ⟨b5,?_⟩;have q:=PySem.IsL.update b5 (λxs=>xs.push y);rw[show us.toArray.push y=(us++[y]).toArray by simp]at q;have nb:∀b o,b≠s2.heap.objs.size->s8.heap.get? b=some o->(s8.heap.update s2.heap.objs.size (Obj.mapSeq λxs=>xs.push y)).get? b=some o:=λb o hb e =>
     (Heap.get?_update_other s8.heap _ (Ne.symm hb)).trans e
    refine⟨m',hm,i+1,H8,ys++[vy],us++[y],_,?_,?_,b3,b4,q,r3.append (.cons ry .nil),w8⟩
    .exact b1.turned nb b4 (by rw[eL];exact Nat.ne_of_lt (Nat.lt_succ_self _)) (.inr (by rw[es0];exact Nat.le_refl _)) cne λp hp=>by rw[epn]at hp;cases hp
    .exact T.keep _ _ _ b2 λb hb o e=>nb b o (fpne b hb) e
 have main':=main _ rfl;rw[ee]at main';exact codeAny_compStart_list main' (T.self _ 0 _ _ _ st4 main')
theorem a2l{scope:Scope}(hsc:a2S scope=true):scope.kind=.function/\∀x∈scope.names,scope.names.lookup x.1=some x.2:=by
 unfold a2S at hsc;rw[Bool.and_eq_true]at hsc;exact⟨by simpa using hsc.1,λx hx=>by simpa using List.all_eq_true.mp hsc.2 x hx⟩
theorem Inv.clos{scope:Scope}(I:Inv X pins σ H s)(hcap:D0 scope X.env.scope=true):closureFor scope X.env=pure (a0N scope X.env):=a9a λx hx hk=>by
 have q:=List.all_eq_true.mp hcap x hx;rw[hk]at q;have q':(X.env.scope.names.lookup x.1==some .cell || X.env.scope.names.lookup x.1==some .free)=true:=by simpa using q
 rw[Bool.or_eq_true]at q';exact I.ok.has x.1 (q'.imp (λz=>beq_iff_eq.mp z) λz=>beq_iff_eq.mp z)
theorem a9T{tg iter elt:Expr}{ifs:List Expr}{scope:Scope}{pos:Pos}{N:List Str}{src:List (Option Nat)}{wi:TI}{g:TG}{tt:TT}{te:TE}(hc:X.calm=true)(hi:PI X tg iter wi)
  (hcap:D0 scope X.env.scope=true) (hblk:M4 N src X.N scope=true) (hsc:a2S scope=true)
  (hg:∀cells C s H ex,PG (X.blk N scope cells C s H ex) tg g) (ht:∀cells C s H ex,PIf (X.blk N scope cells C s H ex) ifs tt) (he:∀cells C s H ex,PE (X.blk N scope cells C s H ex) elt te)
  (hs:∀x,foldedSetIterable iter X.env x=pure x:=by intro _;rfl):PE X (.ListComp elt [⟨tg,iter,ifs,0⟩] scope pos) (a3C src wi g tt te):=by
 intro pins s σ H Q I h;obtain⟨hkind,hnd⟩:=a2l hsc;rw[eval_ListComp];refine wpAny_comprehension_free (use:=none) rfl hs (I.clos hcap) hkind (λx hx hk=>by rw[<-hk];exact hnd x hx) (a2y (RR:=compPost (model X.prog X.w) X.A X.xe none (EP X pins σ Q)) hc hi hcap hblk hsc hg ht he I h ?_);intro s2 s4 H2 H4 fp cells pl σ4 ys us k I2 f2 I4 na4 ac4 r4 hz q;obtain⟨m,hns,_⟩:=I4.loc;exact⟨m,hns,λh' hb=>⟨.ref s2.heap.objs.size,_,Inv.unblock I2 f2 (Nat.le_succ _) (Nat.le_refl _) (Nat.ne_of_lt (Nat.lt_succ_self _)) I4 na4 ac4 r4 hz hb,rfl,q⟩⟩
theorem a9t{i:Nat}{y:Str}{py spos:Pos}{tg iter elt:Expr}{ifs:List Expr}{scope:Scope}{pos:Pos}{N:List Str}{src:List (Option Nat)}{wi:TI}{g:TG}{tt:TT}{te:TE}
  (hN:X.N.Nodup) (hy:X.N[i]?=some y) (hx:Loc X.env.scope y)
  (hc:X.calm=true) (hi:PI X tg iter wi) (hcap:D0 scope X.env.scope=true) (hblk:M4 N src X.N scope=true) (hsc:a2S scope=true)
  (hg:∀cells C s H ex,PG (X.blk N scope cells C s H ex) tg g) (ht:∀cells C s H ex,PIf (X.blk N scope cells C s H ex) ifs tt) (hel:∀cells C s H ex,PE (X.blk N scope cells C s H ex) elt te)
  (hsw:swapsWith (.ListComp elt [⟨tg,iter,ifs,0⟩] scope pos) (some (.Name y py)) spos.line X.env=pure true:=by rfl) (hs:∀x,foldedSetIterable iter X.env x=pure x:=by intro _;rfl)
  (hf:X.fn y=true∨X.env.scope.names.lookup y=some .local:=by first|exact .inl rfl|exact .inr rfl|assumption) :
  PS X (.Assign [.Name y py] (.ListComp elt [⟨tg,iter,ifs,0⟩] scope pos) spos) (a5V (a3C src wi g tt te) (A9 i)):=by
 intro pins s σ H D I h;obtain⟨hkind,hnd⟩:=a2l hsc;rw[exec_Assign_Name_used _ _ _ _ hsw];refine wpAny_bind (wpAny_standAt (wpAny_bind ?_));show wpAny _ X.A (do let _ <-comprehension (.ListComp elt [⟨tg,iter,ifs,0⟩] scope pos) scope X.env _ (newList []) false (eval iter X.env) (some (assign (.Name y py) X.env))) _ _ s;refine wpAny_bind (wpAny_mono (wpAny_comprehension_free (use:=some (assign (.Name y py) X.env)) (Q:=λ_ s'=>SP X pins D .next s') rfl hs (I.clos hcap) hkind (λx hx hk=>by rw[<-hk];exact hnd x hx)
  (a2y (RR:=compPost (model X.prog X.w) X.A X.xe (some (assign (.Name y py) X.env)) (λ_ s'=>SP X pins D .next s')) hc hi hcap hblk hsc hg ht hel I h ?_)) (λ_ s' hq=>wpAny_pure (wpAny_pure hq)) λ_ _ e=>e)
 intro s2 s4 H2 H4 fp cells pl σ4 ys us k I2 f2 I4 na4 ac4 r4 hz q;obtain⟨m,hns,_⟩:=I4.loc;have hns':s4.heap.Ns (s2.heap.objs.size+1) m:=hns;have frC:H4 (s2.heap.objs.size+1)=none:=I4.free;have J:=Inv.unblock I2 f2 (Nat.le_succ _) (Nat.le_refl _) (Nat.ne_of_lt (Nat.lt_succ_self _)) I4 na4 ac4 r4 hz (Heap.SameBut.refl _ _);have neL:s2.heap.objs.size+1≠X.env.locals:=Nat.ne_of_gt (Nat.lt_succ_of_lt I2.lt);have neC:∀x c,X.env.cells.lookup x=some c->c≠s2.heap.objs.size+1:=λx c e=>by
  obtain⟨v,z⟩:=I2.cell x c e;exact Nat.ne_of_lt (Nat.lt_succ_of_lt z.lt)
 show wpAny _ X.A (assign (.Name y py) X.env (.ref s2.heap.objs.size)) _ _ s4;refine wpAny_assign_Name (a2k (v:=.ref s2.heap.objs.size) J hN hy hx rfl (λs' I' hb=>?_) hf);obtain⟨a,sb,ha⟩:=hb;have hane:s2.heap.objs.size+1≠a:=by
  rcases ha with rfl|ha
  .exact neL
  .exact(neC _ _ ha).symm
 refine⟨m,hns'.sameBut sb hane,λh' hb'=>⟨_,_,I'.turned (t':=s'.toks) (it:=s2.heap.objs.size+1) (λb o hne e=>hb'.extBut b o hne e) ?_ neL (.inr (Nat.le_trans I2.sz (Nat.le_succ _))) neC λp hp=>?_,q⟩⟩
 .rw[A6 (Nat.ne_of_gt (Nat.lt_succ_self _))];exact frC
 .exact Nat.ne_of_lt (Nat.lt_succ_of_lt (Heap.lt_size (I2.pin p hp).1))
end
def SqAt(k:Bool)(h:Heap)(l:Addr)(xs:Array Value):Prop:=match k with|true=>h.IsTuple l xs|false=>h.IsList l xs
def ItAt(k:Bool)(h:Heap)(i l:Addr)(n:Nat):Prop:=match k with|true=>h.IsTupleIter i l n|false=>h.IsListIter i l n
noncomputable def b3i:Bool->String|true => "tuple_iterator" | false => "list_iterator"
noncomputable def O2(k:Bool)(l:Addr):Obj:={cls:=.type (b3i k),data:=.fields #[.ref l,.int 0 0]}
theorem ItAt.extBut{k:Bool}{h h':Heap}{i l b:Addr}{n:Nat}(x:ItAt k h i l n)(hs:Heap.ExtBut b h h')(hb:i≠b):ItAt k h' i l n:=by
 cases k
 .exact Heap.IsListIter.extBut x hs hb
 .exact Heap.IsTupleIter.extBut x hs hb
theorem ItAt.at{k:Bool}{h h':Heap}{i l:Addr}{n:Nat}(x:ItAt k h i l n)(e:∀o,h.get? i=some o->h'.get? i=some o):ItAt k h' i l n:=by
 cases k
 .exact Heap.IsListIter.at x e
 .exact Heap.IsTupleIter.at x e
theorem ItAt.get{k:Bool}{h:Heap}{i l:Addr}{n:Nat}(x:ItAt k h i l n):∃o,h.get? i=some o/\o.data=.fields #[.ref l,.int n 0]:=by
 cases k<;>obtain⟨o,e,c,d⟩:=x<;>exact⟨o,e,d⟩
theorem SqAt.extBut{k:Bool}{h h':Heap}{l b:Addr}{xs:Array Value}(x:SqAt k h l xs)(hs:Heap.ExtBut b h h')(hb:l≠b):SqAt k h' l xs:=by
 cases k
 .exact Heap.IsList.extBut x hs hb
 .exact Heap.IsTuple.extBut x hs hb
theorem SqAt.at{k:Bool}{h h':Heap}{l:Addr}{xs:Array Value}(x:SqAt k h l xs)(e:∀o,h.get? l=some o->h'.get? l=some o):SqAt k h' l xs:=by
 cases k<;>obtain⟨o,q,r⟩:=x<;>exact⟨o,e o q,r⟩
theorem SqAt.get{k:Bool}{h:Heap}{l:Addr}{xs:Array Value}(x:SqAt k h l xs):∃o,h.get? l=some o:=by
 cases k<;>obtain⟨o,q,r⟩:=x<;>exact⟨o,q⟩
section
variable {prog:Program}{w:World}{A:Around}{E:Value->Shared->Prop}{s:Shared}
theorem a0J{it t:Addr}{i:Nat}{items:Array Value}{x:Value}{Q:Value->Shared->Prop}(hit:s.heap.IsTupleIter it t i)(ht:s.heap.IsTuple t items)(hx:items[i]?=some x)
  (hQ:∀h',h'.IsTupleIter it t (i+1)->Heap.SameBut it s.heap h'->Q x {s with heap:=h'}):wpAny (model prog w) A (Builtin.SmallTypes.nextOf (.ref it)) Q E s:=by
 obtain⟨o,ho,hc,hd⟩:=id hit;obtain⟨ol,hol,_,nl,hdl⟩:=ht;unfold Builtin.SmallTypes.nextOf;refine wpAny_bind (wpAny_callSpecial?_slot (name:=Str.ofString "__next__") hit.typeIs F.slot_tuple_iterator_next
  (wpAny_call_entry F.slot_tuple_iterator_next hit.typeIs F.entry_tuple_iterator_next ?_ (F.args_tuple_iterator_next_1 _)))
 show wpAny _ _ (field (.ref it) 0>>=_) _ _ s;refine wpAny_bind (wpAny_field ho hd (x:=.ref t) rfl ?_);show wpAny _ _ (if (Value.ref t==Value.none)=true then _ else _) _ _ s;rw[if_neg (show ¬((Value.ref t==Value.none)=true)from Bool.false_ne_true)];show wpAny _ _ (field (.ref it) 1>>=_) _ _ s;refine wpAny_bind (wpAny_field ho hd (x:=.int i 0) rfl ?_);show wpAny _ _ (seqItems? (.ref t)>>=_) _ _ s;refine wpAny_bind (wpAny_seqItems hol hdl ?_);simp only[Int.toNat_natCast,hx];refine wpAny_bind (wpAny_setField ho hd (by simp) (wpAny_pure ⟨x,rfl,wpAny_pure (hQ _ ?_ (Heap.SameBut.update ..))⟩));exact⟨_,Heap.get?_update_self _ ho (Obj.isFreed_of_fields (Obj.data_mapFields hd _)),(Obj.cls_mapFields ..).trans hc,by
  rw[Obj.data_mapFields hd];simp[rawInt]⟩
theorem a1r{it t:Addr}{i:Nat}{items:Array Value}{Q:Value->Shared->Prop}(hh:A.handled=none)(hit:s.heap.IsTupleIter it t i)(ht:s.heap.IsTuple t items)(hx:items[i]?=none)
  (hE:∀h' e,Heap.ExtBut it s.heap h'->(∃o,h'.get? e=some o/\o.cls=.type "StopIteration")->E (.ref e) {s with heap:=h'}) :
  wpAny (model prog w) A (Builtin.SmallTypes.nextOf (.ref it)) Q E s:=by
 obtain⟨o,ho,hc,hd⟩:=id hit;obtain⟨ol,hol,_,nl,hdl⟩:=ht;unfold Builtin.SmallTypes.nextOf;refine wpAny_bind (wpAny_callSpecial?_slot (name:=Str.ofString "__next__") hit.typeIs F.slot_tuple_iterator_next
  (wpAny_call_entry F.slot_tuple_iterator_next hit.typeIs F.entry_tuple_iterator_next ?_ (F.args_tuple_iterator_next_1 _)))
 show wpAny _ _ (field (.ref it) 0>>=_) _ _ s;refine wpAny_bind (wpAny_field ho hd (x:=.ref t) rfl ?_);show wpAny _ _ (if (Value.ref t==Value.none)=true then _ else _) _ _ s;rw[if_neg (show ¬((Value.ref t==Value.none)=true)from Bool.false_ne_true)];show wpAny _ _ (field (.ref it) 1>>=_) _ _ s;refine wpAny_bind (wpAny_field ho hd (x:=.int i 0) rfl ?_);show wpAny _ _ (seqItems? (.ref t)>>=_) _ _ s;refine wpAny_bind (wpAny_seqItems hol hdl ?_);simp only[Int.toNat_natCast,hx];refine wpAny_bind (wpAny_rule (wpAny_bind (wpAny_setField ho hd (by simp) ?_)));show wpAny _ _ (newExc (.type "StopIteration") []>>=_) _ _ _;refine wpAny_bind ?_;simp only[newExc,newTuple];refine wpAny_bind (wpAny_newObj_type ?_ (by size_fits));refine wpAny_bind (m:=firstArgMember _ _) (wpAny_of_eq (a:=Value.none) (by first|rfl | (simp only[firstArgMember];rfl)) ?_);refine wpAny_newObj_type ?_ (by size_fits);simp only[raiseNew];refine wpAny_bind (wpAny_handled ?_)
 first|rw[show A.in1.handled=none from hh]|rw[hh]
 refine wpAny_bind (wpAny_pure (wpAny_throw ?_));exact hE _ _ (((Heap.SameBut.update ..).extBut.push _).push _) ⟨_,Heap.get?_push_size _ rfl,rfl⟩
theorem Y8{k:Bool}{it l:Addr}{i:Nat}{items:Array Value}{x:Value}{Q:Value->Shared->Prop}(hit:ItAt k s.heap it l i)(ht:SqAt k s.heap l items)(hx:items[i]?=some x)
  (hQ:∀h',ItAt k h' it l (i+1)->Heap.SameBut it s.heap h'->Q x {s with heap:=h'}):wpAny (model prog w) A (Builtin.SmallTypes.nextOf (.ref it)) Q E s:=by
 cases k
 .exact wpAny_nextOf_list_item hit ht hx hQ
 .exact a0J hit ht hx hQ
theorem a2N{k:Bool}{it l:Addr}{i:Nat}{items:Array Value}{Q:Value->Shared->Prop}(hh:A.handled=none)(hit:ItAt k s.heap it l i)(ht:SqAt k s.heap l items)(hx:items[i]?=none)
  (hE:∀h' e,Heap.ExtBut it s.heap h'->(∃o,h'.get? e=some o/\o.cls=.type "StopIteration")->E (.ref e) {s with heap:=h'}) :
  wpAny (model prog w) A (Builtin.SmallTypes.nextOf (.ref it)) Q E s:=by
 cases k
 .exact wpAny_nextOf_list_end hh hit ht hx hE
 .exact a1r hh hit ht hx hE
theorem N8{k:Bool}{l:Addr}{items:Array Value}{Q:Value->Shared->Prop}(ht:SqAt k s.heap l items)(hQ:Q (.ref s.heap.objs.size) {s with heap:=s.heap.push (O2 k l)}):wpAny (model prog w) A (pyIter (.ref l)) Q E s:=by
 cases k
 .exact wpAny_pyIter_list ht hQ
 .exact wpAny_pyIter_tuple ht hQ
end
section
variable {prog:Program}{w:World}{A:Around}{E:Value->Shared->Prop}{s:Shared}{k1 k2:Bool}
theorem a6Y{z TI TO i1 i2 l1 l2:Addr}{n1 n2:Nat}{xs ys:Array Value}{x y a b:Value}{Q:Value->Shared->Prop}(D:ZipApart z TI TO i1 i2 l1 l2)
  (hz:IsZip s.heap z TI TO .none) (hTI:IsPair s.heap TI (.ref i1) (.ref i2)) (hTO:IsPair s.heap TO a b)
  (h1:ItAt k1 s.heap i1 l1 n1) (h2:ItAt k2 s.heap i2 l2 n2) (hl1:SqAt k1 s.heap l1 xs) (hl2:SqAt k2 s.heap l2 ys) (hx:xs[n1]?=some x) (hy:ys[n2]?=some y)
  (hQ:∀h',IsZip h' z TI TO (rawInt s.heap.objs.size)->IsPair h' TO x y->ItAt k1 h' i1 l1 (n1+1)->ItAt k2 h' i2 l2 (n2+1)->IsPair h' s.heap.objs.size x y->h'.objs.size=s.heap.objs.size+1 ->
   (∀c o,c≠z->c≠TO->c≠i1->c≠i2->s.heap.get? c=some o->h'.get? c=some o)->Q (.ref s.heap.objs.size) {s with heap:=h'}) :
  wpAny (model prog w) A (Builtin.«zip.__next__» ⟨[.ref z],[]⟩) (λfin s'=>∃v,fin=.done (.ret v)/\Q v s') E s:=by
 show wpAny _ _ (field (.ref z) 2>>=_) _ _ _;refine wpAny_bind (wpAny_field hz rfl (x:=.bool false) rfl ?_);show wpAny _ _ (field (.ref z) 3>>=_) _ _ _;refine wpAny_bind (wpAny_field hz rfl (x:=.ref TI) rfl ?_);refine wpAny_bind (wpAny_seqItems hTI rfl ?_);show wpAny _ _ (Builtin.SmallTypes.ownedTupleIsFree (.ref z)>>=_) _ _ _;refine wpAny_bind ?_;unfold Builtin.SmallTypes.ownedTupleIsFree;refine wpAny_bind (wpAny_field hz rfl (x:=.none) rfl (wpAny_pure ?_));simp only[if_true];refine wpAny_bind (wpAny_rule ?_);refine wpAny_bind (wpAny_field hz rfl (x:=.ref TO) rfl ?_);refine wpAny_bind (wpAny_setField_rec hz (by simp) λh₁ hz₁ hs₁=>?_);replace hz₁:IsZip h₁ z TI TO .ellipsis:=hz₁;refine wpAny_bind ?_;simp only[List.zipIdx_cons,List.zipIdx_nil,List.forIn_cons,List.forIn_nil];refine wpAny_bind (wpAny_bind (wpAny_onRaise ?_));show wpAny _ _ (Builtin.SmallTypes.nextOf (.ref i1)>>=_) _ _ _;refine wpAny_bind (Y8 (h1.extBut hs₁.extBut D.i1z) (hl1.extBut hs₁.extBut D.l1z) hx λh₂ h1₂ hs₂=>wpAny_pure ?_);have hTO₂:IsPair h₂ TO a b:=hs₂.extBut _ _ D.TOi1 (hs₁.extBut _ _ D.TOz hTO);refine wpAny_bind (wpAny_seqItems hTO₂ rfl ?_);refine wpAny_bind (wpAny_updateSeq_pair hTO₂ λh₃ hTO₃ hs₃=>?_);replace hTO₃:IsPair h₃ TO x b:=hTO₃;refine wpAny_bind (wpAny_letGo (wpAny_pure ?_));refine wpAny_bind (wpAny_bind (wpAny_onRaise ?_));show wpAny _ _ (Builtin.SmallTypes.nextOf (.ref i2)>>=_) _ _ _;refine wpAny_bind (Y8 (((h2.extBut hs₁.extBut D.i2z).extBut hs₂.extBut D.i12.symm).extBut hs₃.extBut D.TOi2.symm)
  (((hl2.extBut hs₁.extBut D.l2z).extBut hs₂.extBut D.l2i1).extBut hs₃.extBut D.l2TO) hy λh₄ h2₄ hs₄=>wpAny_pure ?_)
 have hTO₄:IsPair h₄ TO x b:=hs₄.extBut _ _ D.TOi2 hTO₃;refine wpAny_bind (wpAny_seqItems hTO₄ rfl ?_);refine wpAny_bind (wpAny_updateSeq_pair hTO₄ λh₅ hTO₅ hs₅=>?_);replace hTO₅:IsPair h₅ TO x y:=hTO₅;refine wpAny_bind (wpAny_letGo (wpAny_pure (wpAny_pure ?_)));refine wpAny_bind (wpAny_seqItems hTO₅ rfl ?_);refine wpAny_bind (wpAny_newTuple ?_);have hsz:h₅.objs.size=s.heap.objs.size:=by rw[hs₅.1,hs₄.1,hs₃.1,hs₂.1,hs₁.1]
 have hz₅:IsZip h₅ z TI TO .ellipsis:=hs₅.extBut _ _ D.TOz.symm (hs₄.extBut _ _ D.i2z.symm (hs₃.extBut _ _ D.TOz.symm (hs₂.extBut _ _ D.i1z.symm hz₁)));have hk₅:∀c o,c≠z->c≠TO->c≠i1->c≠i2->s.heap.get? c=some o->h₅.get? c=some o:=λc o c1 c2 c3 c4 e =>
  hs₅.extBut _ _ c2 (hs₄.extBut _ _ c4 (hs₃.extBut _ _ c2 (hs₂.extBut _ _ c3 (hs₁.extBut _ _ c1 e))))
 have h1₅:ItAt k1 h₅ i1 l1 (n1+1):=((h1₂.extBut hs₃.extBut D.TOi1.symm).extBut hs₄.extBut D.i12).extBut hs₅.extBut D.TOi1.symm;have h2₅:ItAt k2 h₅ i2 l2 (n2+1):=h2₄.extBut hs₅.extBut D.TOi2.symm;have hzlt:z<h₅.objs.size:=Heap.lt_size hz₅;show wpAny _ _ (Builtin.SmallTypes.ownedTupleHandOut (.ref z) (.ref h₅.objs.size)>>=_) _ _ _;refine wpAny_bind ?_;unfold Builtin.SmallTypes.ownedTupleHandOut;have hz₆:IsZip (h₅.push {cls:=.type "tuple",data:=.seq #[x,y]}) z TI TO .ellipsis:=Heap.get?_push_of_some _ hz₅;refine wpAny_bind (wpAny_setField_rec hz₆ (by simp) λh₇ hz₇ hs₇=>?_);replace hz₇:IsZip h₇ z TI TO (rawInt h₅.objs.size):=hz₇;refine wpAny_setField_rec hz₇ (by simp) λh₈ hz₈ hs₈=>?_;replace hz₈:IsZip h₈ z TI TO (rawInt h₅.objs.size):=hz₈;have up:∀c o,c≠z->h₅.get? c=some o->h₈.get? c=some o:=λc o c1 e=>hs₈.extBut _ _ c1 (hs₇.extBut _ _ c1 (Heap.get?_push_of_some _ e));have hT₈:IsPair h₈ h₅.objs.size x y:=hs₈.extBut _ _ (Nat.ne_of_gt hzlt) (hs₇.extBut _ _ (Nat.ne_of_gt hzlt) (Heap.get?_push_size _ rfl));have hz8:h₈.objs.size=h₅.objs.size+1:=by rw[hs₈.1,hs₇.1,Heap.size_push]
 rw[hsz]at hz₈ hT₈ hz8;refine wpAny_pure ⟨_,rfl,?_⟩;show Q (.ref h₅.objs.size) _;rw[hsz];exact hQ h₈ hz₈ (up _ _ D.TOz hTO₅) (h1₅.at λo e=>up _ o D.i1z e) (h2₅.at λo e=>up _ o D.i2z e) hT₈ hz8 λc o c1 c2 c3 c4 e=>up c o c1 (hk₅ c o c1 c2 c3 c4 e)
theorem a9f{z TI TO i1 i2 l1 l2:Addr}{n1 n2:Nat}{xs ys:Array Value}{a b:Value}{Q:Fin->Shared->Prop}(hh:A.handled=none)(D:ZipApart z TI TO i1 i2 l1 l2)
  (hz:IsZip s.heap z TI TO .none) (hTI:IsPair s.heap TI (.ref i1) (.ref i2)) (hTO:IsPair s.heap TO a b)
  (h1:ItAt k1 s.heap i1 l1 n1) (h2:ItAt k2 s.heap i2 l2 n2) (hl1:SqAt k1 s.heap l1 xs) (hl2:SqAt k2 s.heap l2 ys) (hend:xs[n1]?=none∨ys[n2]?=none)
  (hE:∀h' e,(∀c o,c≠z->c≠TO->c≠i1->c≠i2->s.heap.get? c=some o->h'.get? c=some o)->(∃o,h'.get? e=some o/\o.cls=.type "StopIteration")->E (.ref e) {s with heap:=h'}) :
  wpAny (model prog w) A (Builtin.«zip.__next__» ⟨[.ref z],[]⟩) Q E s:=by
 show wpAny _ _ (field (.ref z) 2>>=_) _ _ _;refine wpAny_bind (wpAny_field hz rfl (x:=.bool false) rfl ?_);show wpAny _ _ (field (.ref z) 3>>=_) _ _ _;refine wpAny_bind (wpAny_field hz rfl (x:=.ref TI) rfl ?_);refine wpAny_bind (wpAny_seqItems hTI rfl ?_);show wpAny _ _ (Builtin.SmallTypes.ownedTupleIsFree (.ref z)>>=_) _ _ _;refine wpAny_bind ?_;unfold Builtin.SmallTypes.ownedTupleIsFree;refine wpAny_bind (wpAny_field hz rfl (x:=.none) rfl (wpAny_pure ?_));simp only[if_true];refine wpAny_bind (wpAny_rule ?_);refine wpAny_bind (wpAny_field hz rfl (x:=.ref TO) rfl ?_);refine wpAny_bind (wpAny_setField_rec hz (by simp) λh₁ hz₁ hs₁=>?_);replace hz₁:IsZip h₁ z TI TO .ellipsis:=hz₁;refine wpAny_bind ?_;simp only[List.zipIdx_cons,List.zipIdx_nil,List.forIn_cons,List.forIn_nil];refine wpAny_bind (wpAny_bind (wpAny_onRaise ?_));show wpAny _ _ (Builtin.SmallTypes.nextOf (.ref i1)>>=_) _ _ _;cases hx:xs[n1]? with
 |none =>
  refine wpAny_bind (a2N hh (h1.extBut hs₁.extBut D.i1z) (hl1.extBut hs₁.extBut D.l1z) hx λh₂ e hs₂ he=>?_);obtain⟨oe,hoe,hce⟩:=he;have hz₂:IsZip h₂ z TI TO .ellipsis:=hs₂ _ _ D.i1z.symm hz₁;have hez:e≠z:=λx=>by subst x;rw[hz₂]at hoe;cases hoe;simp at hce
  refine wpAny_setField_rec hz₂ (by simp) λh₃ _ hs₃=>hE h₃ e (λc o c1 _ c3 _ x=>hs₃.extBut _ _ c1 (hs₂ _ _ c3 (hs₁.extBut _ _ c1 x))) ⟨oe,hs₃.extBut _ _ hez hoe,hce⟩
 |some x =>
  have hy:ys[n2]?=none:=by rcases hend with h|h;rw[hx]at h;cases h;exact h
  refine wpAny_bind (Y8 (h1.extBut hs₁.extBut D.i1z) (hl1.extBut hs₁.extBut D.l1z) hx λh₂ h1₂ hs₂=>wpAny_pure ?_);have hTO₂:IsPair h₂ TO a b:=hs₂.extBut _ _ D.TOi1 (hs₁.extBut _ _ D.TOz hTO);refine wpAny_bind (wpAny_seqItems hTO₂ rfl ?_);refine wpAny_bind (wpAny_updateSeq_pair hTO₂ λh₃ hTO₃ hs₃=>?_);refine wpAny_bind (wpAny_letGo (wpAny_pure ?_));refine wpAny_bind (wpAny_bind (wpAny_onRaise ?_));show wpAny _ _ (Builtin.SmallTypes.nextOf (.ref i2)>>=_) _ _ _;refine wpAny_bind (a2N hh (((h2.extBut hs₁.extBut D.i2z).extBut hs₂.extBut D.i12.symm).extBut hs₃.extBut D.TOi2.symm)
   (((hl2.extBut hs₁.extBut D.l2z).extBut hs₂.extBut D.l2i1).extBut hs₃.extBut D.l2TO) hy λh₄ e hs₄ he=>?_)
  obtain⟨oe,hoe,hce⟩:=he;have hz₄:IsZip h₄ z TI TO .ellipsis:=hs₄ _ _ D.i2z.symm (hs₃.extBut _ _ D.TOz.symm (hs₂.extBut _ _ D.i1z.symm hz₁));have hez:e≠z:=λx=>by subst x;rw[hz₄]at hoe;cases hoe;simp at hce
  refine wpAny_setField_rec hz₄ (by simp) λh₅ _ hs₅=>hE h₅ e (λc o c1 c2 c3 c4 x=>hs₅.extBut _ _ c1 (hs₄ _ _ c4 (hs₃.extBut _ _ c2 (hs₂.extBut _ _ c3 (hs₁.extBut _ _ c1 x))))) ⟨oe,hs₅.extBut _ _ hez hoe,hce⟩
noncomputable abbrev zH1(k1:Bool)(h:Heap)(l1:Addr):Heap:=h.push (O2 k1 l1)
noncomputable abbrev zH2(k1 k2:Bool)(h:Heap)(l1 l2:Addr):Heap:=(zH1 k1 h l1).push (O2 k2 l2)
noncomputable abbrev zH3(k1 k2:Bool)(h:Heap)(l1 l2:Addr):Heap:=(zH2 k1 k2 h l1 l2).push {cls:=.type "tuple",data:=.seq #[.ref h.objs.size,.ref (zH1 k1 h l1).objs.size]}
noncomputable abbrev zH4(k1 k2:Bool)(h:Heap)(l1 l2:Addr):Heap:=(zH3 k1 k2 h l1 l2).push {cls:=.type "tuple",data:=.seq #[.none,.none]}
noncomputable abbrev zH5(k1 k2:Bool)(h:Heap)(l1 l2:Addr):Heap:=(zH4 k1 k2 h l1 l2).push {cls:=.type "zip",data:=.fields #[.none,.bool false,.bool false,.ref (zH2 k1 k2 h l1 l2).objs.size,.ref (zH3 k1 k2 h l1 l2).objs.size]}
theorem a9e(l1 l2:Addr)(xs ys:Array Value) :
  Meets (Builtin.«zip.__new__» ⟨[.type "zip",.ref l1,.ref l2],[]⟩) (λ_ R s=>SqAt k1 s.heap l1 xs/\SqAt k2 s.heap l2 ys /\
   R (.ok (.ret (.ref (zH4 k1 k2 s.heap l1 l2).objs.size))) {s with heap:=zH5 k1 k2 s.heap l1 l2}) :=
 .of_wp λprog w A R s h=>by
  obtain⟨hp,g,d,tk,os⟩:=s;obtain⟨hl1,hl2,h⟩:=h;have hsub:=sub_zip;have hL1:SqAt k1 (Shared.heap ⟨hp,g,d,tk,os⟩) l1 xs:=hl1;have hL2:SqAt k2 (Shared.heap ⟨hp.push (O2 k1 l1),g,d,tk,os⟩) l2 ys:=hl2.at λo e=>Heap.get?_push_of_some _ e
  wp_walk using N8 hL1,N8 hL2
  exact⟨_,rfl,h⟩
theorem a7a{l1 l2:Addr}{xs ys:Array Value}{Q:Value->Shared->Prop}(hl1:SqAt k1 s.heap l1 xs)(hl2:SqAt k2 s.heap l2 ys)
  (h:∀h',IsZip h' (s.heap.objs.size+4) (s.heap.objs.size+2) (s.heap.objs.size+3) .none->IsPair h' (s.heap.objs.size+2) (.ref s.heap.objs.size) (.ref (s.heap.objs.size+1)) ->
   IsPair h' (s.heap.objs.size+3) .none .none->ItAt k1 h' s.heap.objs.size l1 0->ItAt k2 h' (s.heap.objs.size+1) l2 0->h'.objs.size=s.heap.objs.size+5 ->
   (∀c o,s.heap.get? c=some o->h'.get? c=some o)->Q (.ref (s.heap.objs.size+4)) {s with heap:=h'}) :
  wpAny (model prog w) A (call (.type "zip") [.ref l1,.ref l2]) Q E s:=by
 refine callType_new F.called_zip (by decide) (F.typeCall_zip_2 _ _) (F.newCall_zip_2 _ _) (λobj=>F.args_object_init_3 obj _ _) F.entry_zip_new
  (a9e (k1:=k1) (k2:=k2) l1 l2 xs ys) ⟨hl1,hl2,?_⟩
 have z1:(zH1 k1 s.heap l1).objs.size=s.heap.objs.size+1:=Heap.size_push ..;have z2:(zH2 k1 k2 s.heap l1 l2).objs.size=s.heap.objs.size+2:=by rw[Heap.size_push,z1]
 have z3:(zH3 k1 k2 s.heap l1 l2).objs.size=s.heap.objs.size+3:=by rw[Heap.size_push,z2]
 have z4:(zH4 k1 k2 s.heap l1 l2).objs.size=s.heap.objs.size+4:=by rw[Heap.size_push,z3]
 have z5:(zH5 k1 k2 s.heap l1 l2).objs.size=s.heap.objs.size+5:=by rw[Heap.size_push,z4]
 have g5:(zH5 k1 k2 s.heap l1 l2).get? (zH4 k1 k2 s.heap l1 l2).objs.size=some _:=Heap.get?_push_size _ rfl;have g4:(zH5 k1 k2 s.heap l1 l2).get? (zH3 k1 k2 s.heap l1 l2).objs.size=some _:=Heap.get?_push_of_some _ (Heap.get?_push_size _ rfl);have g3:(zH5 k1 k2 s.heap l1 l2).get? (zH2 k1 k2 s.heap l1 l2).objs.size=some _:=Heap.get?_push_of_some _ (Heap.get?_push_of_some _ (Heap.get?_push_size _ rfl));have g2:(zH5 k1 k2 s.heap l1 l2).get? (zH1 k1 s.heap l1).objs.size=some (O2 k2 l2):=Heap.get?_push_of_some _ (Heap.get?_push_of_some _ (Heap.get?_push_of_some _ (Heap.get?_push_size _ rfl)));have g1:(zH5 k1 k2 s.heap l1 l2).get? s.heap.objs.size=some (O2 k1 l1):=Heap.get?_push_of_some _ (Heap.get?_push_of_some _ (Heap.get?_push_of_some _ (Heap.get?_push_of_some _ (Heap.get?_push_size _ rfl))));show _/\_;rw[z2,z3,z4]at g5;rw[z1,z2]at g3;rw[z3]at g4;rw[z1]at g2;rw[z4];refine⟨⟨_,g5,rfl⟩,h _ g5 g3 g4 ?_ ?_ z5 λc o x =>
  Heap.get?_push_of_some _ (Heap.get?_push_of_some _ (Heap.get?_push_of_some _ (Heap.get?_push_of_some _ (Heap.get?_push_of_some _ x))))⟩
 .cases k1<;>exact⟨_,g1,rfl,rfl⟩
 .cases k2<;>exact⟨_,g2,rfl,rfl⟩
end
def SqK(k:Bool)(K:PySem.W.Frag)(H:Hp)(a:Addr)(xs:List V):Prop:=match k with|true=>SqT K H a xs|false=>SqL K H a xs
theorem Inv.sqk{X:Cx}{pins:List (Addr×Obj)}{σ:St}{H:Hp}{s:Shared}{k:Bool}{a:Addr}{xs:List V}(I:Inv X pins σ H s)(h:SqK k X.K H a xs):∃its:List Value,Vals xs its/\SqAt k s.heap a its.toArray/\xs.length<=sizeLine:=by
 cases k
 .obtain⟨its,r,p,z⟩:=I.list h;exact⟨its,r,p.isList,z⟩
 .obtain⟨its,r,p,z⟩:=I.tuple h;exact⟨its,r,p,z⟩
theorem Inv.sqk_inj{X:Cx}{pins:List (Addr×Obj)}{σ:St}{H:Hp}{s:Shared}{k:Bool}{a:Addr}{xs ys:List V}(I:Inv X pins σ H s)(h:SqK k X.K H a xs)(h':SqK k X.K H a ys):xs=ys:=by
 cases k
 .exact I.list_inj h h'
 .exact I.tuple_inj h h'
noncomputable def Itz(K:PySem.W.Frag)(k1 k2:Bool)(a b:Addr):It :=
 ⟨λi H=>∃xs ys x y,SqK k1 K H a xs/\SqK k2 K H b ys/\xs[i]?=some x/\ys[i]?=some y,
  λi H v H'=>∃p x y,v=.ref p/\H p=none/\H'=upd H p (.tup [x,y])/\(∀xs,SqK k1 K H a xs->xs[i]?=some x)/\∀ys,SqK k2 K H b ys->ys[i]?=some y,
  λi H=>∃xs ys,SqK k1 K H a xs/\SqK k2 K H b ys/\(xs.length<=i∨ys.length<=i)⟩
structure ZTurn(k1 k2:Bool)(z TI TO i1 i2 a b:Addr)(i:Nat)(f0:Value)(h:Heap):Prop where
 zz:IsZip h z TI TO f0
 ti:IsPair h TI (.ref i1) (.ref i2)
 to:∃u v,IsPair h TO u v
 t1:ItAt k1 h i1 a i
 t2:ItAt k2 h i2 b i
structure ZNe(z TI TO i1 i2:Addr):Prop where
 TIz:TI≠z
 TOz:TO≠z
 i1z:i1≠z
 i2z:i2≠z
 TITO:TI≠TO
 TIi1:TI≠i1
 TIi2:TI≠i2
 TOi1:TO≠i1
 TOi2:TO≠i2
 i12:i1≠i2
section
variable {X:Cx}{pins:List (Addr×Obj)}{σ:St}{H:Hp}{s:Shared}
theorem Inv.turnedT{h':Heap}{ch:List Addr}{p:Addr}{o:HO}(I:Inv X pins σ H s)(hf:∀b∈ch,a0x X pins H b)(hp:s.heap.objs.size=p)(k:∀b o,b∉ch->s.heap.get? b=some o->h'.get? b=some o)
  (new:ObjOk X.prog X.w (upd H p o) h' p o):Inv X pins σ (upd H p o) {s with heap:=h'}:=by
 have hn:H p=none:=I.hok.fresh (Nat.le_of_eq hp);have nit:∀b u,H b=some u->b∉ch:=λb u e z=>by rw[(hf b z).1]at e;cases e
 have nep:∀b u,H b=some u->b≠p:=λb u e z=>by rw[z,hn]at e;cases e
 have nap:∀b u,s.heap.get? b=some u->b≠p:=λb u e=>by
  rw[<-hp];exact Nat.ne_of_lt (Heap.lt_size e)
 refine I.step (g':=s.gens) (d':=s.drawn) (t':=s.toks) (ch:=ch) (λb hb=>?_) (λb o _ _ hc e _=>k b o hc e) (λb o _ _ hc e _=>⟨o.slots,k b o hc e⟩) (λb u _ e n=>by rw[A6 (nap b u e)];exact n)
  (λb o hc e=>⟨o,k b o hc e⟩) (λb xs e=>by rw[A6 (nep b _ e)];exact e) (λb u v e=>by rw[A6 (nep b _ e)];exact e) (λb ps e=>⟨#[],by rw[A6 (nep b _ e),e];simp⟩) (λm hm=>?_) (λb u e=>?_) I.bare
 .obtain⟨_,h1,_,h3,h4,h5⟩:=hf b hb;exact⟨h3,h1,h4,h5⟩
 .obtain⟨o,es,ep,ho,r⟩:=hm;exact⟨o,es,ep,k _ o (λz=>(hf _ z).2.1 rfl) ho,r⟩
 .by_cases hb:b=p
  .subst hb;rw[A0]at e;cases e;exact new
  .rw[A6 hb]at e;refine(I.hok b u e).stay (λc v hc q=>k c v ?_ q) (λc q=>by rw[A6 (nep c _ q)];exact q) λc xs q=>by rw[A6 (nep c _ q)];exact q
   rcases hc with z|z
   .rw[z];exact nit b u e
   .exact nit c _ z
theorem Inv.turnedL{h':Heap}{ch:List Addr}(I:Inv X pins σ H s)(hf:∀b∈ch,a0x X pins H b)(k:∀b o,b∉ch->s.heap.get? b=some o->h'.get? b=some o):Inv X pins σ H {s with heap:=h'}:=by
 have nit:∀b u,H b=some u->b∉ch:=λb u e z=>by rw[(hf b z).1]at e;cases e
 refine I.step (g':=s.gens) (d':=s.drawn) (t':=s.toks) (ch:=ch) (λb hb=>?_) (λb o _ _ hc e _=>k b o hc e) (λb o _ _ hc e _=>⟨o.slots,k b o hc e⟩) (λb u _ e n=>n)
  (λb o hc e=>⟨o,k b o hc e⟩) (λb xs e=>e) (λb u v e=>e) (λb ps e=>⟨#[],by rw[e];simp⟩) (λm hm=>?_) (λb u e=>?_) I.bare
 .obtain⟨_,h1,_,h3,h4,h5⟩:=hf b hb;exact⟨h3,h1,h4,h5⟩
 .obtain⟨o,es,ep,ho,r⟩:=hm;exact⟨o,es,ep,k _ o (λz=>(hf _ z).2.1 rfl) ho,r⟩
 .refine(I.hok b u e).stay (λc v hc q=>k c v ?_ q) (λc q=>q) λc xs q=>q;rcases hc with z|z
  .rw[z];exact nit b u e
  .exact nit c _ z
theorem Inv.apart{k:Bool}{a:Addr}{xs:List V}{b:Addr}{o:Obj}(I:Inv X pins σ H s)(hs:SqK k X.K H a xs)(hf:a0x X pins H b):a≠b:=by
 rintro rfl;have inH:∀{u:HO},Rd H a u->False:=λr=>by
  rcases r with r|⟨o,r⟩<;>rw[hf.1]at r<;>cases r
 have inK:∀{ob:Obj},X.K.lookup a=some ob->False:=λe=>by
  have e0:=I.mod.kin a _ e;rcases hf.2.2.2.1 with z|z
  .exact I.ok.noex _ _ e0 z
  .exact absurd (Nat.lt_of_lt_of_le (Heap.lt_size (I.ok.bs _ _ e0).1) z) (Nat.lt_irrefl _)
 cases k
 .rcases hs with r|⟨ob,_,_,e,_⟩
  .exact inH r
  .exact inK e
 .rcases hs with r|⟨ob,_,_,e,_⟩
  .exact inH r
  .exact inK e
end
theorem a7b{P:Program}{w:World}{K:PySem.W.Frag}{es:List Expr}{kt:Nat}{tp:Pos}{k1 k2:Bool}{a b z TI TO i1 i2:Addr}(D:ZNe z TI TO i1 i2) :
  Turn P w K (.Tuple es kt tp) (Itz K k1 k2 a b) [z,TI,TO,i1,i2] z (λi h=>ZTurn k1 k2 z TI TO i1 i2 a b i .none h) where
 mem:=by simp
 obj:=λi h st c hc=>by
  simp only[List.mem_cons,List.not_mem_nil,or_false]at hc;rcases hc with rfl|rfl|rfl|rfl|rfl
  .exact⟨_,st.zz,λv z=>by cases z⟩
  .exact⟨_,st.ti,λv z=>by cases z⟩
  .obtain⟨u,v,q⟩:=st.to;exact⟨_,q,λv z=>by cases z⟩
  .obtain⟨o,e,d⟩:=st.t1.get;exact⟨o,e,λv z=>by rw[d]at z;cases z⟩
  .obtain⟨o,e,d⟩:=st.t2.get;exact⟨o,e,λv z=>by rw[d]at z;cases z⟩
 keep:=λi h h' st k=>⟨k z (by simp) _ st.zz,k TI (by simp) _ st.ti,let ⟨u,v,q⟩:=st.to;⟨u,v,k TO (by simp) _ q⟩,st.t1.at λo e=>k i1 (by simp) o e,st.t2.at λo e=>k i2 (by simp) o e⟩
 item:=by
  intro X hP hw hK hc i pins s σ H E I hf st hg;subst hP hw hK;obtain⟨xs,ys,x,y,hx1,hy1,hx,hy⟩:=hg;obtain⟨us,ru,pu,zu⟩:=I.sqk hx1;obtain⟨ws,rw',pw,zw⟩:=I.sqk hy1;obtain⟨u,hu,rux⟩:=ru.get hx;obtain⟨v,hv,rvy⟩:=rw'.get hy;have ap:∀c∈[z,TI,TO,i1,i2],a≠c/\b≠c:=λc hc=>⟨I.apart (o:=default) hx1 (hf c hc),I.apart (o:=default) hy1 (hf c hc)⟩;have D':ZipApart z TI TO i1 i2 a b:=⟨D.TIz,D.TOz,D.i1z,D.i2z,D.TITO,D.TIi1,D.TIi2,D.TOi1,D.TOi2,D.i12,(ap z (by simp)).1,(ap TO (by simp)).1,(ap i1 (by simp)).1,(ap i2 (by simp)).1,(ap z (by simp)).2,(ap TO (by simp)).2,(ap i1 (by simp)).2,(ap i2 (by simp)).2⟩;obtain⟨ua,ub,hTO⟩:=st.to;have hT:s.TypeIs (.ref z) "zip":=⟨_,st.zz,rfl⟩;unfold pyNext;refine wpAny_bind (wpAny_attempt (wpAny_callSpecial?_slot (name:=Str.ofString "__next__") hT F.slot_zip_next
   (wpAny_call_entry F.slot_zip_next hT F.entry_zip_next
    (a6Y D' st.zz st.ti hTO st.t1 st.t2 pu pw (x:=u) (y:=v) (by simpa using hu) (by simpa using hv) λh' a1 a2 a3 a4 a5 a6 a7=>wpAny_pure ?_) (F.args_zip_next_1 _))))
  refine⟨_,rfl,?_⟩;refine wpAny_letOwnedTupleGo_zip (s:={s with heap:=h'}) a1 λh2 hz2 hs2=>?_;have ne:∀c∈[z,TI,TO,i1,i2],c≠s.heap.objs.size:=λc hc e=>by
   have:∃o,s.heap.get? c=some o:=by
    simp only[List.mem_cons,List.not_mem_nil,or_false]at hc;rcases hc with rfl|rfl|rfl|rfl|rfl
    .exact⟨_,st.zz⟩
    .exact⟨_,st.ti⟩
    .exact⟨_,hTO⟩
    .obtain⟨o,e,d⟩:=st.t1.get;exact⟨o,e⟩
    .obtain⟨o,e,d⟩:=st.t2.get;exact⟨o,e⟩
   obtain⟨o,q⟩:=this;exact absurd (Heap.lt_size q) (by rw[e];exact Nat.lt_irrefl _)
  have hfree:H s.heap.objs.size=none:=I.hok.fresh (Nat.le_refl _);have pr2:IsPair h2 s.heap.objs.size u v:=hs2.extBut _ _ (ne z (by simp)).symm a5;have kk:∀c o,c∉[z,TI,TO,i1,i2]->s.heap.get? c=some o->h2.get? c=some o:=λc o hc e=>by
   simp only[List.mem_cons,List.not_mem_nil,or_false,not_or]at hc;exact hs2.extBut _ _ hc.1 (a7 c o hc.1 hc.2.2.1 hc.2.2.2.1 hc.2.2.2.2 e)
  have I2:Inv X pins σ (upd H s.heap.objs.size (.tup [x,y])) {s with heap:=h2} :=
   I.turnedT (ch:=[z,TI,TO,i1,i2]) hf rfl kk ⟨by show 2<=sizeLine;decide,[u,v],.cons rux (.cons rvy .nil),⟨_,pr2,rfl,0,rfl⟩⟩
  refine⟨.ref s.heap.objs.size,_,I2,rfl,⟨_,x,y,rfl,hfree,rfl,λzs hz=>?_,λzs hz=>?_⟩,⟨hz2,hs2.extBut _ _ D.TIz (a7 _ _ D.TIz D.TITO D.TIi1 D.TIi2 st.ti),⟨u,v,hs2.extBut _ _ D.TOz a2⟩,a3.extBut hs2.extBut D.i1z,a4.extBut hs2.extBut D.i2z⟩,λc hc=>?_⟩
  .rw[I.sqk_inj hz hx1];exact hx
  .rw[I.sqk_inj hz hy1];exact hy
  .rw[A6 (ne c hc)];exact(hf c hc).1
 done:=by
  intro X hP hw hK hc i pins s σ H E I hf st hg;subst hP hw hK;obtain⟨xs,ys,hx1,hy1,hend⟩:=hg;obtain⟨us,ru,pu,zu⟩:=I.sqk hx1;obtain⟨ws,rw',pw,zw⟩:=I.sqk hy1;have l1:=ru.length;have l2:=rw'.length;have ap:∀c∈[z,TI,TO,i1,i2],a≠c/\b≠c:=λc hc=>⟨I.apart (o:=default) hx1 (hf c hc),I.apart (o:=default) hy1 (hf c hc)⟩;have D':ZipApart z TI TO i1 i2 a b:=⟨D.TIz,D.TOz,D.i1z,D.i2z,D.TITO,D.TIi1,D.TIi2,D.TOi1,D.TOi2,D.i12,(ap z (by simp)).1,(ap TO (by simp)).1,(ap i1 (by simp)).1,(ap i2 (by simp)).1,(ap z (by simp)).2,(ap TO (by simp)).2,(ap i1 (by simp)).2,(ap i2 (by simp)).2⟩;obtain⟨ua,ub,hTO⟩:=st.to;have hT:s.TypeIs (.ref z) "zip":=⟨_,st.zz,rfl⟩;unfold pyNext;refine wpAny_bind (wpAny_attempt (wpAny_callSpecial?_slot (name:=Str.ofString "__next__") hT F.slot_zip_next
   (wpAny_call_entry F.slot_zip_next hT F.entry_zip_next (a9f (I.ok.hd hc) D' st.zz st.ti hTO st.t1 st.t2 pu pw ?_ λh' e hk he=>?_) (F.args_zip_next_1 _))))
  .rcases hend with q|q
   .exact .inl (by simp;omega)
   .exact .inr (by simp;omega)
  .obtain⟨o,ho,hc⟩:=he;refine wpAny_bind (wpAny_isInstance (T:="StopIteration") (b:=true) ⟨o,ho,hc⟩ isSubtype_stop ?_);refine wpAny_pure ⟨rfl,I.turnedL (ch:=[z,TI,TO,i1,i2]) hf λc o hc e=>?_⟩;simp only[List.mem_cons,List.not_mem_nil,or_false,not_or]at hc;exact hk c o hc.1 hc.2.2.1 hc.2.2.2.1 hc.2.2.2.2 e
 self:=λA i s Q E st h=>wpAny_pyIter_zip st.zz h
theorem nne{a b:Nat}(h:a≠b):@Ne Addr a b:=h
theorem zne(n:Nat):ZNe (n+4) (n+2) (n+3) n (n+1) :=
 ⟨nne (by omega),nne (by omega),nne (by omega),nne (by omega),nne (by omega),nne (by omega),nne (by omega),nne (by omega),nne (by omega),nne (by omega)⟩
def b3m(K:PySem.W.Frag)(ta:TA):TI:=λσ H R=>ta σ H λvs H1=>∃k1 k2 a b,vs=[.ref a,.ref b]/\(∃xs,SqK k1 K H1 a xs)/\(∃ys,SqK k2 K H1 b ys)/\R (Itz K k1 k2 a b) H1
section
variable {X:Cx}
theorem b2f{es:List Expr}{kt:Nat}{tp:Pos}{a b:Expr}{ta:TA}{p pos:Pos}(hg:Gl X "zip")(hm:X.mg "zip"=none)(ha:PA X [a,b] ta)(hbz:bootBuiltins "zip"=some (.type "zip"))
  (hs:starEach [a,b] X.env=[(false,eval a X.env),(false,eval b X.env)]:=by rfl) (hs2:starEach [b] X.env=[(false,eval b X.env)]:=by rfl) :
  PI X (.Tuple es kt tp) (.Call (.Name "zip" p) [a,b] [] pos) (b3m X.K ta):=by
 intro pins s σ H R I h;refine Call_ (a0q I hg hm hbz (PyProof.Rows.callWith_type1 (thn (ha pos pins s σ H _ I h) λus s1 ⟨vs,H1,I1,r1,q1⟩=>?_) (by rw[hs,hs2]) (by rw[hs2];rfl)));obtain⟨k1,k2,l1,l2,e,⟨xs,hx⟩,⟨ys,hy⟩,q⟩:=q1;subst e;cases r1 with
 |cons r rr =>
  cases rr with
  |cons r' rr =>
   cases rr;cases r;cases r';obtain⟨us,ru,pu,zu⟩:=I1.sqk hx;obtain⟨ws,rw',pw,zw⟩:=I1.sqk hy;refine a7a pu pw λh' z1 z2 z3 z4 z5 z6 z7=>?_;refine wpAny_pyIter_zip (s:={s1 with heap:=h'}) z1 ?_;refine⟨s1.heap.objs.size+4,[s1.heap.objs.size+4,s1.heap.objs.size+2,s1.heap.objs.size+3,s1.heap.objs.size,s1.heap.objs.size+1],_,_,H1,rfl,I1.kept (t':=s1.toks) z7,a7b (zne _),
    ⟨z1,z2,⟨_,_,z3⟩,z4,z5⟩,λc hc=>?_,q⟩
   have hle:s1.heap.objs.size<=c:=by
    simp only[List.mem_cons,List.not_mem_nil,or_false]at hc;rcases hc with rfl|rfl|rfl|rfl|rfl
    .exact Nat.le_add_right _ _
    .exact Nat.le_add_right _ _
    .exact Nat.le_add_right _ _
    .exact Nat.le_refl _
    .exact Nat.le_add_right _ _
   exact I1.fpOk hle (I1.hok.fresh hle)
end
theorem a3x{prog:Program}{w:World}{A:Around}{k:Bool}{I l:Addr}{items:Array Value}(hh:A.handled=none)(hne:l≠I) :
  Walks prog w A I [I,l] [I] items.size (λi v=>items[i]?=some v) (λi h=>ItAt k h I l i/\SqAt k h l items):=by
 cases k
 .exact Walks.list hh I l hne items
 .exact Walks.tuple hh I l hne items
noncomputable def trV:V->Bool
 |.bl b=>b
 |.int i=>i != 0
 |.non=>false
 |_=>true
noncomputable def a5I:V->Bool
 |.bl _=>true
 |.int _=>true
 |.non=>true
 |_=>false
theorem a3y{prog:Program}{w:World}{A:Around}{E:Value->Shared->Prop}{s:Shared}{x:V}{v:Value}{Q:Bool->Shared->Prop}(r:RelV x v)(f:a5I x=true)(h:Q (trV x) s):wpAny (model prog w) A (truthy v) Q E s:=by
 cases x with
 |non=>cases r;exact truthy_none h
 |bl b=>cases r;exact wpAny_truthy_bool h
 |int i=>obtain⟨t,rfl⟩:=r;exact PySem.P.truthy_int h
 |_=>cases f
theorem a5Z{α:Type}(xs:List α)(p:α->Bool)(d:α):(List.range xs.length).all (λi=>p (xs.getD i d))=xs.all p:=by
 rw[Bool.eq_iff_iff,List.all_eq_true,List.all_eq_true];constructor
 .intro h x hx;obtain⟨i,hi,rfl⟩:=List.mem_iff_getElem.mp hx;have:=h i (List.mem_range.mpr hi);simpa[List.getD_eq_getElem?_getD,hi]using this
 .intro h i hi;have hi':=List.mem_range.mp hi;simpa[List.getD_eq_getElem?_getD,hi']using h xs[i] (List.getElem_mem hi')
section
variable {X:Cx}
abbrev RL:=List V->Hp->VK->Prop
def b1W(K:PySem.W.Frag):RL:=λxs H Q=>∃(k:Bool) (p:Addr) (ys:List V),xs=[.ref p]/\SqK k K H p ys/\ys.all a5I=true/\Q (.bl (ys.all trV)) H
theorem a8F{k:Bool}{l:Addr}{items:Array Value}{s:Shared}(h:SqAt k s.heap l items):ItAt k (s.heap.push (O2 k l)) s.heap.objs.size l 0/\SqAt k (s.heap.push (O2 k l)) l items:=by
 refine⟨?_,h.at λo e=>Heap.get?_push_of_some _ e⟩;cases k<;>exact⟨_,Heap.get?_push_size _ rfl,rfl,rfl⟩
theorem a3W{k:Bool}{l:Addr}{items:Array Value}{s:Shared}(h:SqAt k s.heap l items):l≠s.heap.objs.size:=by
 obtain⟨o,e⟩:=h.get;exact Nat.ne_of_lt (Heap.lt_size e)
theorem a3X{s:Shared}{h':Heap}{o0:Obj}(hk:∀b o,b∉[s.heap.objs.size]->(s.heap.push o0).get? b=some o->h'.get? b=some o):∀b o,s.heap.get? b=some o->h'.get? b=some o:=λb o e =>
 hk b o (λz=>by have:=Heap.lt_size e;rw[List.mem_singleton.mp z]at this;exact Nat.lt_irrefl _ this) (Heap.get?_push_of_some _ e)
theorem a9c(hc:X.calm=true):E9 X (.builtin "all") (b1W X.K):=by
 intro pins s σ H xs us Q I rv h;obtain⟨k,p,ys,rfl,hs,hf,q⟩:=h;obtain⟨u,rfl,ru⟩:=rv.one;cases ru;obtain⟨its,ri,sq,hz⟩:=I.sqk hs;have hh:X.A.in1.handled=none:=I.ok.hd hc;refine call_all_walk (N8 sq ?_);refine⟨s.heap.objs.size,_,_,_,_,_,λi=>trV (ys.getD i .non),rfl,a3x (k:=k) (l:=p) (items:=its.toArray) hh (a3W sq),a8F sq,?_,λh' tk hk=>?_⟩
 .intro i v s' Q' E' hv hq;have hv':its[i]?=some v:=by simpa using hv
  obtain⟨hi,_⟩:=List.getElem?_eq_some_iff.mp hv';have hi':i<ys.length:=by rw[ri.length];exact hi
  have hy:ys[i]?=some ys[i]:=List.getElem?_eq_getElem hi';obtain⟨v',e1,e2⟩:=ri.get hy;rw[hv']at e1;cases e1;refine a3y e2 (List.all_eq_true.mp hf _ (List.getElem_mem hi')) ?_;simpa[List.getD_eq_getElem?_getD,hy]using hq
 .have e:(List.range its.toArray.size).all (λi=>trV (ys.getD i .non))=ys.all trV:=by
   rw[List.size_toArray,<-ri.length];exact a5Z ys trV .non
  rw[e];exact⟨.bl _,H,I.kept (a3X hk),rfl,q⟩
def b1V(K:PySem.W.Frag):RL:=λxs H Q=>∃x n t b,xs=[x,.ty n]/\TyOf K H x t/\PySem.W.kitOne K t (.type n)=some b/\Q (.bl b) H
theorem a9b:E9 X (.builtin "isinstance") (b1V X.K):=by
 intro pins s σ H xs us Q I rv h;obtain⟨x,n,t,b,rfl,ty,e,q⟩:=h;obtain⟨u,v,rfl,ru,rv'⟩:=rv.two;cases rv';exact a6v I ru ty e λtk=>⟨.bl b,H,I.tok tk,rfl,q⟩
end
theorem a5c:bootBuiltins "len"=some (.builtin "len"):=boot_len
theorem b3x:bootBuiltins "zip"=some (.type "zip"):=by kernel_rfl
theorem b3B:bootBuiltins "all"=some (.builtin "all"):=by kernel_rfl
theorem b3z:bootBuiltins "min"=some (.builtin "min"):=by kernel_rfl
theorem b3A:bootBuiltins "max"=some (.builtin "max"):=by kernel_rfl
theorem b3C:bootBuiltins "abs"=some (.builtin "abs"):=by kernel_rfl
theorem a2f:bootBuiltins "isinstance"=some (.builtin "isinstance"):=by kernel_rfl
theorem a1P:bootBuiltins "tuple"=some (.type "tuple"):=by kernel_rfl
theorem b0C:bootBuiltins "list"=some (.type "list"):=by kernel_rfl
theorem a5d:bootBuiltins "int"=some (.type "int"):=by kernel_rfl
theorem b0D:bootBuiltins "bool"=some (.type "bool"):=by kernel_rfl
theorem a5b:bootBuiltins "str"=some (.type "str"):=by kernel_rfl
theorem b3y:bootBuiltins "set"=some (.type "set"):=by kernel_rfl
theorem a0g{src:List (Option Nat)}{g:TG}{tt:TT}{te:TE}{σ:St}{Q:VK}{J:It}{H1:Hp}(n:Nat)(Pv:Nat->List V->Hp->Prop)(h0:Pv 0 [] H1)
  (hs:∀i ys H,i<n->Pv i ys H->J.go i H/\ys.length<sizeLine/\∀x H',J.yld i H x H'->g x (B8 src σ) H' λσ2 H2=>Sub (B8 src σ) σ2/\tt σ2 H2 λb H3=>if b=true then te σ2 H3 λv H4=>Pv (i+1) (ys++[v]) H4 else Pv (i+1) ys H3)
  (hd:∀ys H,Pv n ys H->J.stop n H/\ys.length<=sizeLine/\∀p,H p=none->Q (.ref p) (upd H p (.lst ys))):L9 src g tt te σ Q J H1:=by
 refine⟨λi m ys H=>m=n-i/\i<=n/\Pv i ys H,⟨n,by omega,Nat.zero_le _,h0⟩,?_⟩;rintro i m ys H ⟨rfl,hi,p⟩;by_cases hlt:i<n
 .obtain⟨q1,q2,q3⟩:=hs i ys H hlt p;exact .inr ⟨q1,q2,Pv (i+1),λzs H' p'=>⟨n-(i+1),by omega,rfl,hlt,p'⟩,q3⟩
 .have e:i=n:=by omega
  subst e;exact .inl (hd ys H p)
theorem a4X{src:List (Option Nat)}{g:TG}{tt:TT}{te:TE}{σ:St}{Q:VK}{lo:Int}{n:Nat}{H1:Hp}(hn:n<=sizeLine)(Pv:Nat->List V->Hp->Prop)(h0:Pv 0 [] H1)
  (hl:∀i ys H,Pv i ys H->ys.length<=i)
  (hs:∀i ys H,i<n->Pv i ys H->g (.int (lo+i)) (B8 src σ) H λσ2 H2=>Sub (B8 src σ) σ2/\tt σ2 H2 λb H3=>if b=true then te σ2 H3 λv H4=>Pv (i+1) (ys++[v]) H4 else Pv (i+1) ys H3)
  (hd:∀ys H,Pv n ys H->∀p,H p=none->Q (.ref p) (upd H p (.lst ys))):L9 src g tt te σ Q (Itr lo n) H1 :=
 a0g n Pv h0 (λi ys H hi p=>⟨hi,by have:=hl i ys H p;omega,λx H' y=>by obtain⟨e,y⟩:=y;subst e y;exact hs i ys _ hi p⟩)
  λys H p=>⟨Nat.le_refl _,Nat.le_trans (hl n ys H p) hn,hd ys H p⟩
theorem W4{K:PySem.W.Frag}{src:List (Option Nat)}{g:TG}{tt:TT}{te:TE}{σ:St}{Q:VK}{a:Addr}{xs:List V}{H1:Hp}(hn:xs.length<=sizeLine)(Pv:Nat->List V->Hp->Prop)(h0:Pv 0 [] H1)
  (hq:∀i ys H,i<=xs.length->Pv i ys H->SqL K H a xs/\ys.length<=i)
  (hs:∀i x ys H,xs[i]?=some x->Pv i ys H->g x (B8 src σ) H λσ2 H2=>Sub (B8 src σ) σ2/\tt σ2 H2 λb H3=>if b=true then te σ2 H3 λv H4=>Pv (i+1) (ys++[v]) H4 else Pv (i+1) ys H3)
  (hd:∀ys H,Pv xs.length ys H->∀p,H p=none->Q (.ref p) (upd H p (.lst ys))):L9 src g tt te σ Q (Itl K a) H1 :=
 a0g xs.length Pv h0 (λi ys H hi p=>by
   obtain⟨q1,q2⟩:=hq i ys H (Nat.le_of_lt hi) p;refine⟨⟨xs,xs[i],q1,List.getElem?_eq_getElem hi⟩,by omega,λx H' y=>?_⟩;obtain⟨e,y⟩:=y;subst e;exact hs i x ys _ (y xs q1) p)
  λys H p=>by
   obtain⟨q1,q2⟩:=hq _ ys H (Nat.le_refl _) p;exact⟨⟨xs,q1,Nat.le_refl _⟩,by omega,hd ys H p⟩
theorem a4r{K:PySem.W.Frag}{src:List (Option Nat)}{g:TG}{tt:TT}{te:TE}{σ:St}{Q:VK}{a:Addr}{xs:List V}{H1:Hp}(hn:xs.length<=sizeLine)(Pv:Nat->List V->Hp->Prop)(h0:Pv 0 [] H1)
  (hq:∀i ys H,i<=xs.length->Pv i ys H->SqT K H a xs/\ys.length<=i)
  (hs:∀i x ys H,xs[i]?=some x->Pv i ys H->g x (B8 src σ) H λσ2 H2=>Sub (B8 src σ) σ2/\tt σ2 H2 λb H3=>if b=true then te σ2 H3 λv H4=>Pv (i+1) (ys++[v]) H4 else Pv (i+1) ys H3)
  (hd:∀ys H,Pv xs.length ys H->∀p,H p=none->Q (.ref p) (upd H p (.lst ys))):L9 src g tt te σ Q (Itt K a) H1 :=
 a0g xs.length Pv h0 (λi ys H hi p=>by
   obtain⟨q1,q2⟩:=hq i ys H (Nat.le_of_lt hi) p;refine⟨⟨xs,xs[i],q1,List.getElem?_eq_getElem hi⟩,by omega,λx H' y=>?_⟩;obtain⟨e,y⟩:=y;subst e;exact hs i x ys _ (y xs q1) p)
  λys H p=>by
   obtain⟨q1,q2⟩:=hq _ ys H (Nat.le_refl _) p;exact⟨⟨xs,q1,Nat.le_refl _⟩,by omega,hd ys H p⟩
theorem V4{K:PySem.W.Frag}{src:List (Option Nat)}{g:TG}{tt:TT}{te:TE}{σ:St}{Q:VK}{k1 k2:Bool}{a b:Addr}{xs zs:List V}{H1:Hp}(hn:xs.length<=sizeLine)(Pv:Nat->List V->Hp->Prop)(h0:Pv 0 [] H1)
  (hq:∀i ys H,i<=xs.length->i<=zs.length->Pv i ys H->SqK k1 K H a xs/\SqK k2 K H b zs/\ys.length<=i)
  (hs:∀i x z ys H p,xs[i]?=some x->zs[i]?=some z->Pv i ys H->H p=none->g (.ref p) (B8 src σ) (upd H p (.tup [x,z])) λσ2 H2=>Sub (B8 src σ) σ2/\tt σ2 H2 λb H3=>if b=true then te σ2 H3 λv H4=>Pv (i+1) (ys++[v]) H4 else Pv (i+1) ys H3)
  (hd:∀ys H,Pv (min xs.length zs.length) ys H->∀p,H p=none->Q (.ref p) (upd H p (.lst ys))):L9 src g tt te σ Q (Itz K k1 k2 a b) H1 :=
 a0g (min xs.length zs.length) Pv h0 (λi ys H hi p=>by
   have hi1:i<xs.length:=by omega
   have hi2:i<zs.length:=by omega
   obtain⟨q1,q2,q3⟩:=hq i ys H (by omega) (by omega) p;refine⟨⟨xs,zs,xs[i],zs[i],q1,q2,List.getElem?_eq_getElem hi1,List.getElem?_eq_getElem hi2⟩,by omega,λx H' y=>?_⟩;obtain⟨pp,x',z',e,e2,e3,y1,y2⟩:=y;subst e e3;exact hs i x' z' ys _ pp (y1 xs q1) (y2 zs q2) p e2)
  λys H p=>by
   obtain⟨q1,q2,q3⟩:=hq _ ys H (by omega) (by omega) p;exact⟨⟨xs,zs,q1,q2,by omega⟩,by omega,hd ys H p⟩
theorem a5H{K:PySem.W.Frag}{k1 k2:Bool}{a b:Addr}{xs zs:List V}{g:TG}{tb:TS}{D:Ends}{σ:St}{H:Hp}(Pv:Nat->St->Hp->Prop)(h0:Pv 0 σ H)
  (hl:∀i σ H,i<=xs.length->i<=zs.length->Pv i σ H->SqK k1 K H a xs/\SqK k2 K H b zs)
  (hs:∀i x z σ H p,xs[i]?=some x->zs[i]?=some z->Pv i σ H->H p=none->g (.ref p) σ (upd H p (.tup [x,z])) λσ2 H2=>tb {D with nx:=Pv (i+1),ct:=Pv (i+1),bk:=D.nx} σ2 H2) (hd:∀σ H,Pv (min xs.length zs.length) σ H->D.nx σ H) :
  ∃W:Nat->Nat->St->Hp->Prop,(∃m,W 0 m σ H)/\∀i m σ H,W i m σ H ->
   ((Itz K k1 k2 a b).stop i H/\D.nx σ H)∨((Itz K k1 k2 a b).go i H/\∃N:St->Hp->Prop,(∀σ' H',N σ' H'->∃m',m'<m/\W (i+1) m' σ' H')/\∀x H',(Itz K k1 k2 a b).yld i H x H'->g x σ H' λσ2 H2=>tb {D with nx:=N,ct:=N,bk:=D.nx} σ2 H2):=by
 refine⟨λi m σ H=>m=min xs.length zs.length-i/\i<=min xs.length zs.length/\Pv i σ H,⟨_,rfl,Nat.zero_le _,h0⟩,?_⟩;rintro i m σ H ⟨rfl,hi,p⟩;obtain⟨q1,q2⟩:=hl i σ H (by omega) (by omega) p;by_cases hlt:i<min xs.length zs.length
 .have hi1:i<xs.length:=by omega
  have hi2:i<zs.length:=by omega
  refine .inr ⟨⟨xs,zs,xs[i],zs[i],q1,q2,List.getElem?_eq_getElem hi1,List.getElem?_eq_getElem hi2⟩,Pv (i+1),λσ' H' p'=>⟨_,by omega,rfl,hlt,p'⟩,λx H' y=>?_⟩;obtain⟨pp,x',z',e,e2,e3,y1,y2⟩:=y;subst e e3;exact hs i x' z' σ _ pp (y1 xs q1) (y2 zs q2) p e2
 .have e:i=min xs.length zs.length:=by omega
  subst e;exact .inl ⟨⟨xs,zs,q1,q2,by omega⟩,hd σ H p⟩
structure Ok(P:Program)(w:World)(K:PySem.W.Frag)(mg:Str->Option Value)(base:Heap)(x:Str)(k:Nat)(ps:List Str)(sp:Sp):Prop where
 ex:∃f fd,mg x=some (.ref f)/\PySem.W.keepIn K (.ref f)=true/\Binds K fd ps []/\FnOk P w K mg base CX0 k f fd ps sp
structure FunAt(K:PySem.W.Frag)(mg:Str->Option Value)(x:Str)(st:Stmt)(ps:List Str):Prop where
 ex:∃f fd,mg x=some (.ref f)/\Fun K x x st f fd/\Binds K fd ps []
section
variable {P:Program}{w:World}{K:PySem.W.Frag}{mg:Str->Option Value}{base:Heap}
theorem Ok.imp{x:Str}{k:Nat}{ps:List Str}{sp sp':Sp}(O:Ok P w K mg base x k ps sp)(h:∀vs H Q E,sp' vs H Q E->sp vs H Q E):Ok P w K mg base x k ps sp':=by
 obtain⟨f,fd,h1,h2,h3,h4⟩:=O.ex;exact⟨f,fd,h1,h2,h3,h4.imp h⟩
theorem FunAt.ok{x:Str}{st:Stmt}{N ps:List Str}{k:Nat}{sp:Sp}(F:FunAt K mg x st ps)(S:FnScope N ps (A3 st))(len:∀vs H Q E,sp vs H Q E->vs.length=ps.length)
  (hbody:∀(cdv:Value) (f:Addr) (A:Around) (outer:List Env) (s:Shared) (H:Hp) (vs:List V) (Q:VK) (E:XK),Room k (A.deeper (envOfC x (A3 st) s.heap.objs.size f cdv))->sp vs H Q E ->
   ∃t,PSs (a2c CX0 P w K mg base N x (A3 st) f cdv A outer s H E).nox (G7 st) t/\t {nx:=λ_ H'=>Q .non H',rt:=Q} (start N vs) H):Ok P w K mg base x (k+1) ps sp:=by
 obtain⟨f,fd,h1,h2,h3⟩:=F.ex;exact⟨f,fd,h1,h2.kp,h3,h2.ok S len λcdv=>hbody cdv f⟩
end
section
variable {X:Cx}{k:Nat}{ps:List Str}{sp:Sp}{x:Str}{p pos:Pos}{e:Expr}{es:List Expr}{t:TA}
theorem a8a(O:Ok X.prog X.w X.K X.mg X.base x k ps sp)(hr:Room k X.A)(hg:Gl X x)(ha:PA X (e::es) t)(hdb:(x==("__debug__" : Str))=false:=by decide)
  (he:starEach (e::es) X.env=(false,eval e X.env)::starEach es X.env:=by rfl) (hpl:(backTo pos (starEach es X.env)).any (·.1)=false:=by rfl):PE X (.Call (.Name x p) (e::es) [] pos) (a5k sp [] E0 t):=by
 obtain⟨f,fd,h1,h2,h3,h4⟩:=O.ex;exact a9U h4 hr hg h1 h2 h3 .nil a5r ha hdb he hpl
end
inductive EqV(K:PySem.W.Frag)(H:Hp):Nat->V->V->Bool->Prop
 |flat {n:Nat}{x y:V}(fx:I0 x=true) (fy:I0 y=true):EqV K H n x y (eqV x y)
 |tup {n:Nat}{a b:Addr}{xs ys:List V}(e:Nat->Bool) (ha:SqT K H a xs) (hb:SqT K H b ys) (he:∀j x y,xs[j]?=some x->ys[j]?=some y->EqV K H n x y (e j)) :
   EqV K H (n+1) (.ref a) (.ref b) ((List.range (min xs.length ys.length)).all e && xs.length==ys.length)
 |lst {n:Nat}{a b:Addr}{xs ys:List V}(e:Nat->Bool) (ha:SqL K H a xs) (hb:SqL K H b ys) (he:∀j x y,xs[j]?=some x->ys[j]?=some y->EqV K H n x y (e j)) :
   EqV K H (n+1) (.ref a) (.ref b) ((List.range (min xs.length ys.length)).all e && xs.length==ys.length)
theorem a4m:∀{x:V},I0 x=true->eqV x x=true
 |.non,_=>rfl
 |.bl b,_=>beq_self_eq_true b
 |.int i,_=>beq_self_eq_true i
 |.str y,_=>beq_self_eq_true y
 |.byt _,h=>by cases h
 |.flt _,h=>by cases h
 |.ref _,h=>by cases h
 |.ty _,h=>by cases h
section
variable {X:Cx}{pins:List (Addr×Obj)}{σ:St}{H:Hp}{s:Shared}
theorem EqV.same{n:Nat}{x y:V}{b:Bool}(I:Inv X pins σ H s)(h:EqV X.K H n x y b):x=y->b=true:=by
 induction h with
 |flat fx fy=>rintro rfl;exact a4m fx
 |tup e ha hb he ih =>
  intro z;cases z;have q:=I.tuple_inj ha hb;subst q;simp only[Nat.min_self,Bool.and_eq_true,beq_self_eq_true,and_true,List.all_eq_true,List.mem_range];intro j hj;exact ih j _ _ (List.getElem?_eq_getElem hj) (List.getElem?_eq_getElem hj) rfl
 |lst e ha hb he ih =>
  intro z;cases z;have q:=I.list_inj ha hb;subst q;simp only[Nat.min_self,Bool.and_eq_true,beq_self_eq_true,and_true,List.all_eq_true,List.mem_range];intro j hj;exact ih j _ _ (List.getElem?_eq_getElem hj) (List.getElem?_eq_getElem hj) rfl
theorem E2{xs:List V}{us:List Value}{j:Nat}{u:Value}(r:Vals xs us)(h:us[j]?=some u):∃x,xs[j]?=some x/\RelV x u:=by
 obtain⟨hj,_⟩:=List.getElem?_eq_some_iff.mp h;have hj':j<xs.length:=by rw[r.length];exact hj
 have hx:xs[j]?=some xs[j]:=List.getElem?_eq_getElem hj';obtain⟨u',e,q⟩:=r.get hx;rw[h]at e;cases e;exact⟨_,hx,q⟩
theorem EqV.at{n:Nat}{x y:V}{b:Bool}(I:Inv X pins σ H s)(h:EqV X.K H n x y b):∀{A:Around}{u v:Value},A.units+n<cLine->RelV x u->RelV y v->SeqAt.EqAt A s u v b:=by
 induction h with
 |flat fx fy=>intro A u v _ ru rv;exact a8Q ru rv fx fy
 |@tup n a b xs ys e ha hb he ih =>
  intro A u v hu ru rv;cases ru;cases rv;by_cases hab:a=b
  .have:=(EqV.tup e ha hb he).same I (by rw[hab]);rw[this,hab];exact SeqAt.EqAt.same _
  .obtain⟨us,r1,p1,_⟩:=I.tuple ha;obtain⟨ws,r2,p2,_⟩:=I.tuple hb;rw[r1.length,r2.length];refine SeqAt.EqAt.of_refs hab ?_;have:=SeqAt.RcAt.tuples (A:=A) (s:=s) (e:=e) (show s.heap.IsTuple a us.toArray from p1) (show s.heap.IsTuple b ws.toArray from p2) (by omega) (λj h1 h2=>?_)
   .simpa using this
   .have h1':us[j]?=some us.toArray[j]:=by simp at h1⊢
    have h2':ws[j]?=some ws.toArray[j]:=by simp at h2⊢
    obtain⟨x,ex,rx⟩:=E2 r1 h1';obtain⟨y,ey,ry⟩:=E2 r2 h2';exact ih j x y ex ey (by show A.units+1+n<cLine;omega) rx ry
 |@lst n a b xs ys e ha hb he ih =>
  intro A u v hu ru rv;cases ru;cases rv;by_cases hab:a=b
  .have:=(EqV.lst e ha hb he).same I (by rw[hab]);rw[this,hab];exact SeqAt.EqAt.same _
  .obtain⟨us,r1,p1,_⟩:=I.list ha;obtain⟨ws,r2,p2,_⟩:=I.list hb;rw[r1.length,r2.length];refine SeqAt.EqAt.of_refs hab ?_;by_cases hl:us.length=ws.length
   .have:=SeqAt.RcAt.lists (A:=A) (s:=s) (e:=e) p1.isList p2.isList (by simpa using hl) (by omega) (λj h1 h2=>?_)
    .simpa[hl]using this
    .have h1':us[j]?=some us.toArray[j]:=by simp at h1⊢
     have h2':ws[j]?=some ws.toArray[j]:=by simp at h2⊢
     obtain⟨x,ex,rx⟩:=E2 r1 h1';obtain⟨y,ey,ry⟩:=E2 r2 h2';exact ih j x y ex ey (by show A.units+1+n<cLine;omega) rx ry
   .have:=SeqAt.RcAt.lists_lengths (A:=A) (s:=s) p1.isList p2.isList (by simpa using hl) (by omega);have e0:(us.length==ws.length)=false:=by simpa using hl
    rw[e0,Bool.and_false];exact this
end
def a1W(K:PySem.W.Frag)(neg:Bool):R2:=λx y H Q=>∃n b,n<=50/\EqV K H n x y b/\(∃a c,x=.ref a/\y=.ref c)/\Q (.bl (if neg then !b else b)) H
section
variable {X:Cx}
theorem b2H(hu:X.A.units+60<cLine):OpR X (compareOp .Eq) (a1W X.K false):=by
 intro pins s σ H x y v u Q I rx ry h;obtain⟨n,b,hn,he,⟨a,c,rfl,rfl⟩,q⟩:=h;cases rx;cases ry;show wpAny _ _ (richCompare .Eq (.ref a) (.ref c)) _ _ s;have key:SeqAt.RcAt X.A s (.ref a) (.ref c) b:=by
  cases he with
  |flat fx fy=>cases fx
  |@tup n _ _ xs ys e ha hb he =>
   obtain⟨us,r1,p1,_⟩:=I.tuple ha;obtain⟨ws,r2,p2,_⟩:=I.tuple hb;rw[r1.length,r2.length];have:=SeqAt.RcAt.tuples (A:=X.A) (s:=s) (e:=e) (show s.heap.IsTuple a us.toArray from p1) (show s.heap.IsTuple c ws.toArray from p2) (by omega) (λj h1 h2=>?_)
   .simpa using this
   .have h1':us[j]?=some us.toArray[j]:=by simp at h1⊢
    have h2':ws[j]?=some ws.toArray[j]:=by simp at h2⊢
    obtain⟨x,ex,rx⟩:=E2 r1 h1';obtain⟨y,ey,ry⟩:=E2 r2 h2';exact(he j x y ex ey).at I (by show X.A.units+1+n<cLine;omega) rx ry
  |@lst n _ _ xs ys e ha hb he =>
   obtain⟨us,r1,p1,_⟩:=I.list ha;obtain⟨ws,r2,p2,_⟩:=I.list hb;rw[r1.length,r2.length];by_cases hl:us.length=ws.length
   .have:=SeqAt.RcAt.lists (A:=X.A) (s:=s) (e:=e) p1.isList p2.isList (by simpa using hl) (by omega) (λj h1 h2=>?_)
    .simpa[hl]using this
    .have h1':us[j]?=some us.toArray[j]:=by simp at h1⊢
     have h2':ws[j]?=some ws.toArray[j]:=by simp at h2⊢
     obtain⟨x,ex,rx⟩:=E2 r1 h1';obtain⟨y,ey,ry⟩:=E2 r2 h2';exact(he j x y ex ey).at I (by show X.A.units+1+n<cLine;omega) rx ry
   .have:=SeqAt.RcAt.lists_lengths (A:=X.A) (s:=s) p1.isList p2.isList (by simpa using hl) (by omega);have e0:(us.length==ws.length)=false:=by simpa using hl
    rw[e0,Bool.and_false];exact this
 exact key _ _ _ _ ⟨.bl _,H,I,rfl,q⟩
theorem b2B(hu:X.A.units+60<cLine):OpR X (compareOp .NotEq) (a1W X.K true):=by
 intro pins s σ H x y v u Q I rx ry h;obtain⟨n,b,hn,he,⟨a,c,rfl,rfl⟩,q⟩:=h;cases rx;cases ry;show wpAny _ _ (richCompare .NotEq (.ref a) (.ref c)) _ _ s;have key:SeqAt.RcNeAt X.A s (.ref a) (.ref c) (!b):=by
  cases he with
  |flat fx fy=>cases fx
  |@tup n _ _ xs ys e ha hb he =>
   obtain⟨us,r1,p1,_⟩:=I.tuple ha;obtain⟨ws,r2,p2,_⟩:=I.tuple hb;rw[r1.length,r2.length];have:=SeqAt.RcNeAt.tuples (A:=X.A) (s:=s) (e:=e) (show s.heap.IsTuple a us.toArray from p1) (show s.heap.IsTuple c ws.toArray from p2) (by omega) (λj h1 h2=>?_)
   .simpa using this
   .have h1':us[j]?=some us.toArray[j]:=by simp at h1⊢
    have h2':ws[j]?=some ws.toArray[j]:=by simp at h2⊢
    obtain⟨x,ex,rx⟩:=E2 r1 h1';obtain⟨y,ey,ry⟩:=E2 r2 h2';exact(he j x y ex ey).at I (by show X.A.units+1+n<cLine;omega) rx ry
  |@lst n _ _ xs ys e ha hb he =>
   obtain⟨us,r1,p1,_⟩:=I.list ha;obtain⟨ws,r2,p2,_⟩:=I.list hb;rw[r1.length,r2.length];by_cases hl:us.length=ws.length
   .have:=SeqAt.RcNeAt.lists (A:=X.A) (s:=s) (e:=e) p1.isList p2.isList (by simpa using hl) (by omega) (λj h1 h2=>?_)
    .simpa[hl]using this
    .have h1':us[j]?=some us.toArray[j]:=by simp at h1⊢
     have h2':ws[j]?=some ws.toArray[j]:=by simp at h2⊢
     obtain⟨x,ex,rx⟩:=E2 r1 h1';obtain⟨y,ey,ry⟩:=E2 r2 h2';exact(he j x y ex ey).at I (by show X.A.units+1+n<cLine;omega) rx ry
   .have:=SeqAt.RcNeAt.lists_lengths (A:=X.A) (s:=s) p1.isList p2.isList (by simpa using hl) (by omega);have e0:(us.length==ws.length)=false:=by simpa using hl
    rw[e0,Bool.and_false];exact this
 exact key _ _ _ _ ⟨.bl _,H,I,rfl,q⟩
theorem b0G{ns ms:List Int}:((List.range (min ns.length ms.length)).all (λj=>decide (ns.getD j 0=ms.getD j 0)) && ns.length==ms.length)=decide (ns=ms):=by
 rw[Bool.eq_iff_iff];simp only[Bool.and_eq_true,List.all_eq_true,List.mem_range,decide_eq_true_eq,beq_iff_eq];constructor
 .rintro⟨h1,h2⟩;refine List.ext_getElem h2 λi a b=>?_;have:=h1 i (by omega);simpa[List.getD_eq_getElem?_getD,a,b]using this
 .rintro rfl;exact⟨λ_ _=>rfl,rfl⟩
theorem a8H{ns:List Int}{j:Nat}{x:V}(h:(ns.map V.int)[j]?=some x):x=.int (ns.getD j 0)/\j<ns.length:=by
 rw[List.getElem?_map]at h;cases e:ns[j]? with
 |none=>rw[e]at h;cases h
 |some z =>
  rw[e]at h;obtain⟨hj,_⟩:=List.getElem?_eq_some_iff.mp e;exact⟨by rw[List.getD_eq_getElem?_getD,e];exact(Option.some.inj h).symm,hj⟩
theorem EqV.ints{K:PySem.W.Frag}{H:Hp}{k:Bool}{a b:Addr}{ns ms:List Int}(ha:SqK k K H a (ns.map V.int))(hb:SqK k K H b (ms.map V.int)):EqV K H 1 (.ref a) (.ref b) (decide (ns=ms)):=by
 have step:∀j x y,(ns.map V.int)[j]?=some x->(ms.map V.int)[j]?=some y->EqV K H 0 x y (decide (ns.getD j 0=ms.getD j 0)):=λj x y hx hy=>by
  obtain⟨rfl,_⟩:=a8H hx;obtain⟨rfl,_⟩:=a8H hy;have:=EqV.flat (K:=K) (H:=H) (n:=0) (x:=.int (ns.getD j 0)) (y:=.int (ms.getD j 0)) rfl rfl;rw[show eqV (.int (ns.getD j 0)) (.int (ms.getD j 0))=decide (ns.getD j 0=ms.getD j 0)from rfl]at this;exact this
 rw[<-b0G];cases k
 .have:=EqV.lst (λj=>decide (ns.getD j 0=ms.getD j 0)) ha hb step;simpa using this
 .have:=EqV.tup (λj=>decide (ns.getD j 0=ms.getD j 0)) ha hb step;simpa using this
theorem a8L:b3F X (a6a X.K):=by
 intro pins s σ H x y v u Q I rx ry h;obtain⟨p,xs,i,z,rfl,rfl,hq,he,q⟩:=h;cases rx;obtain⟨t,rfl⟩:=ry;obtain⟨its,r,pl,hz⟩:=I.list hq;obtain⟨j,h1,h2,h3,h4,h5⟩:=a0X he;obtain⟨w,ew,rw'⟩:=r.get h2;have hl:=r.length;have hn:=U8;have fin:EP X pins σ Q w s:=⟨z,H,I,rw',q⟩;by_cases h0:0<=i
 .have hj:i.toNat=j:=by
   rw[seqIndex_of h0 h5]at h1;exact Option.some.inj h1
  exact wpAny_getItem_list pl.isList h0 (by omega) (by rw[hj];simpa using ew) fin
 .have hj:(i+(its.toArray.size:Int)).toNat=j:=by
   rw[seqIndex_neg (by omega) h4]at h1;rw[List.size_toArray,<-hl];exact Option.some.inj h1
  exact wpAny_getItem_list_neg pl.isList (by omega) (by rw[List.size_toArray]<;>omega) (by omega) (by rw[hj];simpa using ew) fin
end
open PySem.AutoSeq1 (wpAny_loadPart')
section
variable {X:Cx}
end
end L2
namespace L2
open PySem PySem.Spec PyProof.Rows
section
variable {X:Cx}{pos:Pos}
theorem a9N(K:PySem.W.Frag){es:List Expr}{k:Nat}{t:TGs}{n:Nat}(hc:X.calm=true)(h:PGs X es t)(hK:X.K=K:=by rfl)
  (hn:(assignEach es X.env).length=n:=by rfl) (hst:(assignEach es X.env).findIdx? (·.1)=none:=by rfl):PG X (.Tuple es k pos) (a8M K n t):=by
 subst hK;exact b2h hc h hn hst
theorem a7O(K:PySem.W.Frag){tg l:Expr}{tl:TE}(hl:PE X l tl)(hK:X.K=K:=by rfl):PI X tg l (a8I K tl):=by subst hK;exact a9L hl
theorem a9J(K:PySem.W.Frag){tg l:Expr}{tl:TE}(hl:PE X l tl)(hK:X.K=K:=by rfl):PI X tg l (b3n K tl):=by subst hK;exact b2g hl
theorem a9I(K:PySem.W.Frag){es:List Expr}{kt:Nat}{tp:Pos}{a b:Expr}{ta:TA}{p pos:Pos}(hg:Gl X "zip")(hm:X.mg "zip"=none)(ha:PA X [a,b] ta)(hK:X.K=K:=by rfl)
  (hs:starEach [a,b] X.env=[(false,eval a X.env),(false,eval b X.env)]:=by rfl) (hs2:starEach [b] X.env=[(false,eval b X.env)]:=by rfl) :
  PI X (.Tuple es kt tp) (.Call (.Name "zip" p) [a,b] [] pos) (b3m K ta):=by subst hK;exact b2f hg hm ha b3x hs hs2
def b3O(K:PySem.W.Frag)(ta:TE):TT:=λσ H Q=>ta σ H λx H'=>∃k,b3D K x H' k/\Q k H'
theorem a6b(K:PySem.W.Frag){a:Expr}{ta:TE}(ha:PE X a ta)(he:∀whole,isTrue a X.env whole=(do let v <-whole;standAt a.pos;holding [v] (truthy v)))(hK:X.K=K:=by rfl):PT X a (b3O K ta):=by
 subst hK;exact a7D ha he
theorem a8D(K:PySem.W.Frag)(hK:X.K=K:=by rfl):IxR X (a6a K):=by subst hK;exact b0w
theorem b0v(K:PySem.W.Frag)(hK:X.K=K:=by rfl):IxR X (b1U K):=by subst hK;exact b3g
theorem a6z(K:PySem.W.Frag)(hK:X.K=K:=by rfl):b3F X (a6a K):=by subst hK;exact a8L
theorem a7q(K:PySem.W.Frag)(hK:X.K=K:=by rfl):SlR X (b1T K):=by subst hK;exact a9k
theorem b2G(K:PySem.W.Frag)(hK:X.K=K:=by rfl):OpR X (compareOp .In) (rIn K false):=by subst hK;exact a6g
theorem a6f(K:PySem.W.Frag)(hK:X.K=K:=by rfl):OpR X (compareOp .NotIn) (rIn K true):=by subst hK;exact a2X
theorem a8e(K:PySem.W.Frag)(hu:X.A.units+60<cLine)(hK:X.K=K:=by rfl):OpR X (compareOp .Eq) (a1W K false):=by subst hK;exact b2H hu
theorem b2A(K:PySem.W.Frag)(hu:X.A.units+60<cLine)(hK:X.K=K:=by rfl):OpR X (compareOp .NotEq) (a1W K true):=by subst hK;exact b2B hu
theorem a6V(K:PySem.W.Frag)(hc:X.calm=true)(hK:X.K=K:=by rfl):E9 X (.builtin "all") (b1W K):=by subst hK;exact a9c hc
theorem a6R(K:PySem.W.Frag)(hK:X.K=K:=by rfl):E9 X (.builtin "isinstance") (b1V K):=by subst hK;exact a9b
def b4n(K:PySem.W.Frag):RL:=λxs H Q=>∃p ys,xs=[.ref p]/\(SqL K H p ys∨SqT K H p ys)/\Q (.int ys.length) H
def b1k(K:PySem.W.Frag):RL:=λxs H Q=>∃p ys,xs=[.ref p]/\(SqL K H p ys∨SqT K H p ys)/\∀l,H l=none->Q (.ref l) (upd H l (.lst ys))
def a7u(K:PySem.W.Frag):RL:=λxs H Q=>∃p ys,xs=[.ref p]/\((SqL K H p ys/\∀l,H l=none->Q (.ref l) (upd H l (.tup ys)))∨(SqT K H p ys/\Q (.ref p) H))
theorem a6Q(K:PySem.W.Frag)(hK:X.K=K:=by rfl):E9 X (.builtin "len") (b4n K):=by subst hK;exact a3v
theorem a5a(K:PySem.W.Frag)(hK:X.K=K:=by rfl):E9 X (.type "list") (b1k K):=by subst hK;exact a3t
theorem a4u(K:PySem.W.Frag)(hK:X.K=K:=by rfl):E9 X (.type "tuple") (a7u K):=by subst hK;exact a2e
def b4l:RL:=λxs H Q=>∃i j,xs=[.int i,.int j]/\Q (.int (if j<i then j else i)) H
def b5d:RL:=λxs H Q=>∃i j,xs=[.int i,.int j]/\Q (.int (if j > i then j else i)) H
def b4p:RL:=λxs H Q=>(∃i,xs=[.int i]/\Q (.int i) H)∨∃k,xs=[.bl k]/\Q (.int (if k then 1 else 0)) H
theorem a6M(hc:X.calm=true):E9 X (.builtin "min") b4l:=a6N hc
theorem a6T:E9 X (.type "int") b4p:=a6U
variable {o e:Expr}{es:List Expr}{to:TE}{t:TA}{name:Str}{apos cpos:Pos}{T id:String}{r:V->List V->Hp->VK->Prop}
theorem U4(K:PySem.W.Frag)(pa:PlainAttrs T)(slot:Slot T name id)(hty:typeOf (.builtin id)=pure (.type "method_descriptor"))(hm:MtR X id r)(ho:PE X o to)(ha:PA X (e::es) t)(hK:X.K=K:=by rfl)
  (hbase:attributeBase o name X.env (eval o X.env)=eval o X.env:=by rfl)
  (hfew:((backTo cpos (starEach (e::es) X.env)).all (λx=>!x.1) && (backToKw cpos (keywordEach [] X.env)).all (λx=>x.1.isSome)
   && decide ((e::es).length+([]:List Keyword).length+(if ([]:List Keyword).isEmpty then 0 else 1)<30))=true:=by rfl)
  (hline:(apos.endLine==cpos.line)=true:=by rfl) (hs:starEach (e::es) X.env=(false,eval e X.env)::starEach es X.env:=by rfl) (hplain:(backTo cpos (starEach es X.env)).any (·.1)=false:=by rfl) :
  PE X (.Call (.Attribute o name apos) (e::es) [] cpos) (tBM K T r to t):=by subst hK;exact b4x pa slot hty hm ho ha hbase hfew hline hs hplain
end
def IT(H:Hp)(v:V)(ns:List Int):Prop:=∃a,v=.ref a/\H a=some (.tup (ns.map V.int))
theorem IT.same{H H':Hp}{v:V}{ns:List Int}(h:IT H v ns)(s:Same H H')   : IT H' v ns:=let ⟨a,e,q⟩:=h;⟨a,e,s a _ q⟩
theorem Same.upd{H H':Hp}{p:Addr}{o:HO}(s:Same H H')(hp:H' p=none):Same H (upd H' p o):=λb u e=>by
 rw[A6 (A4 (s b u e) hp)];exact s b u e
theorem G8{H:Hp}{p b:Addr}{o u:HO}(hb:H b=some u)(hp:H p=none):upd H p o b=some u:=by rw[A6 (A4 hb hp)];exact hb
def Off(l:List Addr)(H H':Hp):Prop:=∀b o,b∉l->H b=some o->H' b=some o
theorem Off.refl(l:List Addr)(H:Hp):Off l H H:=λ_ _ _ e=>e
theorem Off.trans{l:List Addr}{H H1 H2:Hp}(a:Off l H H1)(b:Off l H1 H2):Off l H H2:=λc o hc e=>b c o hc (a c o hc e)
theorem Same.off{l:List Addr}{H H':Hp}(s:Same H H'):Off l H H':=λb o _ e=>s b o e
theorem Off.upd{l:List Addr}{H H':Hp}{p:Addr}{o:HO}(s:Off l H H')(hp:H' p=none):Off l H (upd H' p o):=λb u hb e=>by
 rw[A6 (A4 (s b u hb e) hp)];exact s b u hb e
theorem Off.set{l:List Addr}{H H':Hp}{p:Addr}{o:HO}(s:Off l H H')(hp:p∈l):Off l H (L2.upd H' p o):=λb u hb e=>by
 rw[A6 (by rintro rfl;exact hb hp)];exact s b u hb e
theorem Off.mono{l l':List Addr}{H H':Hp}(s:Off l H H')(h:∀b∈l,b∈l'):Off l' H H':=λb o hb e=>s b o (λz=>hb (h b z)) e
theorem a3c(ns:List Int):(ns.map V.int).length=ns.length:=List.length_map _
theorem a3m{ns:List Int}{i:Nat}{x:V}(h:(ns.map V.int)[i]?=some x):∃z,ns[i]?=some z/\x=.int z:=by
 rw[List.getElem?_map]at h;cases e:ns[i]? with
 |none=>rw[e]at h;cases h
 |some z=>rw[e]at h;exact⟨z,rfl,(Option.some.inj h).symm⟩
theorem a2K{α β γ:Type}(f:α->β->γ){xs:List α}{ys:List β}{i:Nat}{x:α}{y:β}(hx:xs[i]?=some x)(hy:ys[i]?=some y):(List.zipWith f xs ys).take (i+1)=(List.zipWith f xs ys).take i++[f x y]:=by
 have:(List.zipWith f xs ys)[i]?=some (f x y):=by rw[List.getElem?_zipWith,hx,hy]
 rw[List.take_add_one,this];rfl
theorem a6Z{K:PySem.W.Frag}{src:List (Option Nat)}{σ caps:St}{Q:VK}{k1 k2:Bool}{a b:Addr}{xs ys:List Int}{H:Hp}{te:TE}(f:Int->Int->V)(ha:SqK k1 K H a (xs.map V.int))(hb:SqK k2 K H b (ys.map V.int))(hl:xs.length<=1000)
  (hmono:∀H',Same H H'->SqK k1 K H' a (xs.map V.int)/\SqK k2 K H' b (ys.map V.int))
  (hsrc:B8 src σ=none::none::caps) (hte:∀x y H1 Q1,Same H H1->Q1 (f x y) H1->te (some (.int x)::some (.int y)::caps) H1 Q1)
  (hd:∀H1 p,Same H H1->H1 p=none->Q (.ref p) (upd H1 p (.lst (List.zipWith f xs ys)))) :
  L9 src (a8M K 2 (a2v (A9 0) (a2v (A9 1) b0z))) Y7 te σ Q (Itz K k1 k2 a b) H:=by
 have hz:(1000:Nat)<=sizeLine:=by rw[sizeLine_eq];decide
 refine V4 (xs:=xs.map V.int) (zs:=ys.map V.int) (by rw[a3c];omega) (λi zs H'=>Same H H'/\zs=(List.zipWith f xs ys).take i) ⟨Same.refl H,by simp⟩ (λi zs H' _ _ h=>⟨(hmono H' h.1).1,(hmono H' h.1).2,by rw[h.2];exact List.length_take_le _ _⟩) ?_ ?_
 .rintro i x z zs H' p hx hy ⟨s,rfl⟩ hp;obtain⟨x',hx',e1⟩:=a3m hx;obtain⟨z',hy',e2⟩:=a3m hy;subst e1 e2;clear hx hy;have s':Same H (upd H' p (.tup [.int x',.int z'])):=s.upd hp;refine⟨p,[.int x',.int z'],rfl,SqT.of A0,rfl,.int x',[.int z'],rfl,.int z',[],rfl,rfl,?_⟩;rw[hsrc];show Sub _ (some (.int x')::some (.int z')::caps)/\_;refine⟨⟨rfl,λj v e=>?_⟩,?_⟩
  .match j,e with
   |0,e=>cases e
   |1,e=>cases e
   |j+2,e=>exact e
  .exact hte x' z' _ _ s' ⟨s',(a2K f hx' hy').symm⟩
 .rintro zs H' ⟨s,rfl⟩ p hp;have e:(List.zipWith f xs ys).take (min (xs.map V.int).length (ys.map V.int).length)=List.zipWith f xs ys:=by
   rw[a3c,a3c,List.take_of_length_le];rw[List.length_zipWith];exact Nat.le_refl _
  rw[e];exact hd H' p s hp
theorem Sub.one{caps:St}{v:V}:Sub (none::caps) (some v::caps):=⟨rfl,λj u e=>by
 match j,e with
 |0,e=>cases e
 |j+1,e=>exact e⟩
theorem a7t{src:List (Option Nat)}{σ caps:St}{Q:VK}{n:Nat}{H:Hp}{tt:TT}{te:TE}(hn:n<=1000)(hsrc:B8 src σ=none::caps)(Pv:Nat->List V->Hp->Prop)(h0:Pv 0 [] H)(hl:∀i ys H,Pv i ys H->ys.length<=i)
  (hs:∀i ys H,i<n->Pv i ys H->tt (some (.int i)::caps) H λb H3=>if b=true then te (some (.int i)::caps) H3 λv H4=>Pv (i+1) (ys++[v]) H4 else Pv (i+1) ys H3)
  (hd:∀ys H,Pv n ys H->∀p,H p=none->Q (.ref p) (upd H p (.lst ys))):L9 src (A9 0) tt te σ Q (Itr 0 n) H:=by
 have hz:(1000:Nat)<=sizeLine:=by rw[sizeLine_eq];decide
 refine a4X (by omega) Pv h0 hl (λi ys H hi p=>?_) hd;show Sub _ ((B8 src σ).set 0 (some (.int (0+(i:Int)))))/\_;rw[hsrc,Int.zero_add];exact⟨Sub.one,hs i ys H hi p⟩
theorem a4I{src:List (Option Nat)}{σ caps:St}{Q:VK}{n:Nat}{H:Hp}{te:TE}(f:Nat->V)(hn:n<=1000)(hsrc:B8 src σ=none::caps)(hte:∀(i:Nat) H1 Q1,i<n->Same H H1->Q1 (f i) H1->te (some (.int i)::caps) H1 Q1)
  (hd:∀H1 p,Same H H1->H1 p=none->Q (.ref p) (upd H1 p (.lst ((List.range n).map f)))):L9 src (A9 0) Y7 te σ Q (Itr 0 n) H:=by
 refine a7t hn hsrc (λi ys H'=>Same H H'/\ys=(List.range i).map f) ⟨Same.refl H,rfl⟩ (λi ys H' h=>by rw[h.2];simp) ?_ ?_
 .rintro i ys H' hi ⟨s,rfl⟩;refine hte i H' _ hi s ⟨s,?_⟩;rw[List.range_succ,List.map_append];rfl
 .rintro ys H' ⟨s,rfl⟩ p hp;exact hd H' p s hp
theorem Room.u60{k:Nat}{A:Around}(r:Room k A):A.units+60<cLine:=by have:=r.un;omega
theorem S2{t u:TS}{D:Ends}{σ:St}{H:Hp}(Pe:St->Hp->Prop)(fin:∀σ H,Pe σ H->u D σ H)(h:(∀σ H,Pe σ H->u D σ H)->t {D with nx:=u D} σ H):b1H t u D σ H:=h fin
theorem b3L{K:PySem.W.Frag}{neg:Bool}{te:TE}{σ:St}{H:Hp}{Q:VK}{b:Addr}{cs:List Int}(hte:∀Q':VK,Q' (.ref b) H->te σ H Q')(hb:H b=some (.lst (cs.map V.int)))
  (q:∀p,H p=none->Q (.bl (if neg then !decide (cs=[])else decide (cs=[]))) (upd H p (.lst []))):tOp (a1W K neg) te (a7g a0l) σ H Q :=
 hte _ ⟨Nat.zero_le _,λp hp=>⟨1,_,by decide,EqV.ints (k:=false) (ms:=[]) (SqL.of (G8 hb hp)) (SqL.of A0),⟨_,_,rfl,rfl⟩,q p hp⟩⟩
theorem b3M{K:PySem.W.Frag}{neg:Bool}{te:TE}{σ:St}{H:Hp}{Q:Bool->Hp->Prop}{b:Addr}{cs:List Int}(hte:∀Q':VK,Q' (.ref b) H->te σ H Q')(hb:H b=some (.lst (cs.map V.int)))
  (q:∀p,H p=none->Q (if neg then !decide (cs=[])else decide (cs=[])) (upd H p (.lst []))):J7 (tOp (a1W K neg) te (a7g a0l)) σ H Q :=
 b3L hte hb λp hp=>⟨_,rfl,q p hp⟩
theorem cut_lo(xs:List Int)(k:Nat)(hk:k<=xs.length):W9 (xs.map V.int) none (some (k:Int))=(xs.take k).map V.int:=by
 unfold W9;rw[HT.sIx_none,HT.sIx_nat,List.length_map,Nat.min_eq_left hk,List.drop_zero,Nat.sub_zero,List.map_take]
theorem cut_hi(xs:List Int)(k:Nat)(hk:k<=xs.length):W9 (xs.map V.int) (some (k:Int)) none=(xs.drop k).map V.int:=by
 unfold W9;rw[HT.sIx_none,HT.sIx_nat,List.length_map,Nat.min_eq_left hk,List.take_of_length_le (by simp),List.map_drop]
structure JE(X:Cx)(e:Expr)(t:TE):Prop where
 h:PE X e t
structure JT(X:Cx)(e:Expr)(t:TT):Prop where
 h:PT X e t
structure JW(X:Cx)(e:Expr)(t:TT):Prop where
 h:PW X e t
structure JA(X:Cx)(es:List Expr)(t:TA):Prop where
 h:PA X es t
structure JS(X:Cx)(st:Stmt)(t:TS):Prop where
 h:PS X st t
structure JB(X:Cx)(st:List Stmt)(t:TS):Prop where
 h:PSs X st t
structure JG(X:Cx)(tg:Expr)(t:TG):Prop where
 h:PG X tg t
structure JGs(X:Cx)(ts:List Expr)(t:TGs):Prop where
 h:PGs X ts t
structure JI(X:Cx)(tg iter:Expr)(t:TI):Prop where
 h:PI X tg iter t
structure JF(X:Cx)(ifs:List Expr)(t:TT):Prop where
 h:PIf X ifs t
structure JO(X:Cx)(e:Option Expr)(t:TO):Prop where
 h:PO X e t
section
variable {X:Cx}{a b c e o:Expr}{es rest:List Expr}{ta tb tc te to:TE}{tA tB:TT}{t:TA}{pos p apos cpos p2:Pos}
theorem jv(i:Nat){x:Str}(hN:X.N[i]?=some x:=by rfl)(hv:Vis X.env.scope x:=by first|exact Or.inl rfl|exact Or.inr (Or.inl rfl)|exact Or.inr (Or.inr rfl))(hd:(x==("__debug__" : Str))=false:=by decide)
  (hcd:(x==("__classdict__" : Str))=false:=by decide):JE X (.Name x pos) (Y6 i):=⟨a7Q hN hv hd hcd⟩
theorem A2{i j}:JE X (.Constant (.int i) j pos) (tC (.int i)):=⟨b2r⟩
theorem a0L{i j}:JE X (.Constant (.bool i) j pos) (tC (.bl i)):=⟨b4y⟩
theorem G9{j}:JE X (.Constant .none j pos) (tC .non):=⟨b2p⟩
theorem B2{x j}:JE X (.Constant (.str x) j pos) (tC (.str x)):=⟨b2m⟩
theorem a0v{x:Str}{v:V}{u:Value}(hg:Gl X x)(hm:X.mg x=none)(hv:bootBuiltins x=some u)(r:RelV v u)(hn:x≠"__name__":=by decide)(hd:(x==("__debug__" : Str))=false:=by decide):JE X (.Name x pos) (tC v):=⟨a9V hg hm hv r hn hd⟩
theorem O1(ha:JE X a ta)(hb:JE X b tb):JE X (.BinOp a .Add b pos) (tOp (rI0 λi j=>.int (i+j)) ta tb):=⟨U3 b2J ha.h hb.h⟩
theorem a4f(ha:JE X a ta)(hb:JE X b tb):JE X (.BinOp a .Sub b pos) (tOp (rI0 λi j=>.int (i-j)) ta tb):=⟨U3 b2x ha.h hb.h⟩
theorem a1x(ha:JE X a ta)(hb:JE X b tb):JE X (.BinOp a .Mult b pos) (tOp (rI CMul λi j=>.int (i*j)) ta tb):=⟨U3 b2C ha.h hb.h⟩
theorem a0a(ha:JE X a ta)(hb:JE X b tb):JE X (.BinOp a .Mod b pos) (tOp (rI (λ_ j=>0<j) λi j=>.int (i % j)) ta tb):=⟨U3 b2D ha.h hb.h⟩
theorem b3e(ha:JE X a ta)(hb:JE X b tb):JE X (.BinOp a .FloorDiv b pos) (tOp (rI b4R λi j=>.int (i / j)) ta tb):=⟨U3 a9Z ha.h hb.h⟩
theorem a8A(ha:JE X a ta)(hb:JE X b tb):JE X (.BinOp a .Pow b pos) (tOp (rI b4Q λi j=>.int (i ^ j.toNat)) ta tb):=⟨U3 b2z ha.h hb.h⟩
theorem b1u(ha:JE X a ta)(hb:JE X b tb):JE X (.BinOp a .Add b pos) (tOp (b4s) ta tb):=⟨U3 b2I ha.h hb.h⟩
theorem b1s(ha:JE X a ta)(hb:JE X b tb):JE X (.BinOp a .Mult b pos) (tOp (b4k) ta tb):=⟨U3 b2y ha.h hb.h⟩
def a2T:R2:=λx y H Q=>∃i j,x=.str i/\y=.str j/\i.length+j.length<=sizeLine/\Q (.str (i++j)) H
theorem O0(ha:JE X a ta)(hb:JE X b tb):JE X (.BinOp a .Add b pos) (tOp a2T ta tb):=⟨U3 a4J ha.h hb.h⟩
theorem Q3(ha:JE X a ta):JE X (.UnaryOp .USub a pos) (tUn (rU λi=>.int (-i)) ta):=⟨b4v b1E ha.h⟩
theorem b4J(ha:JE X a ta):JE X (.UnaryOp .Not a pos) (b0K ta):=⟨b2o ha.h⟩
theorem a1w{op}(h:JE X a ta):JE X (.BoolOp op [a] pos) ta:=⟨b2n h.h⟩
theorem a1z(ha:JE X a ta)(hb:JE X (.BoolOp .And (b::rest) pos) tb):JE X (.BoolOp .And (a::b::rest) pos) (b0P ta tb):=⟨b2v ha.h hb.h⟩
theorem b4W(ha:JE X a ta)(hb:JE X (.BoolOp .Or (b::rest) pos) tb):JE X (.BoolOp .Or (a::b::rest) pos) (b3Q ta tb):=⟨b4w ha.h hb.h⟩
theorem a4h(hc:JT X c tA)(ha:JE X a ta)(hb:JE X b tb):JE X (.IfExp c a b pos) (tIf tA ta tb):=⟨a7V hc.h ha.h hb.h⟩
theorem a1t(ha:JE X a ta)(hb:JE X b tb):JE X (.Compare a [.Eq] [b] pos) (tOp (rEq) ta tb):=⟨V8 b1q ha.h hb.h (J1 _)⟩
theorem N9(ha:JE X a ta)(hb:JE X b tb):JT X (.Compare a [.Eq] [b] pos) (J7 (tOp (rEq) ta tb)):=⟨G5 b1q ha.h hb.h (J1 _)⟩
theorem b1r(ha:JE X a ta)(hb:JE X b tb):JE X (.Compare a [.NotEq] [b] pos) (tOp (rNe) ta tb):=⟨V8 b1o ha.h hb.h (J1 _)⟩
theorem a3Y(ha:JE X a ta)(hb:JE X b tb):JT X (.Compare a [.NotEq] [b] pos) (J7 (tOp (rNe) ta tb)):=⟨G5 b1o ha.h hb.h (J1 _)⟩
theorem b4F(ha:JE X a ta)(hb:JE X b tb):JE X (.Compare a [.Lt] [b] pos) (tOp (rI0 λi j=>.bl (decide (i<j))) ta tb):=⟨V8 b1p ha.h hb.h (J1 _)⟩
theorem b4G(ha:JE X a ta)(hb:JE X b tb):JT X (.Compare a [.Lt] [b] pos) (J7 (tOp (rI0 λi j=>.bl (decide (i<j))) ta tb)):=⟨G5 b1p ha.h hb.h (J1 _)⟩
theorem b4H(ha:JE X a ta)(hb:JE X b tb):JT X (.Compare a [.LtE] [b] pos) (J7 (tOp (rI0 λi j=>.bl (decide (i<=j))) ta tb)):=⟨G5 a3L ha.h hb.h (J1 _)⟩
theorem T7(ha:JE X a ta)(hb:JE X b tb):JT X (.Compare a [.Gt] [b] pos) (J7 (tOp (rI0 λi j=>.bl (decide (j<i))) ta tb)):=⟨G5 b4z ha.h hb.h (J1 _)⟩
theorem b4I(ha:JE X a ta)(hb:JE X b tb):JT X (.Compare a [.GtE] [b] pos) (J7 (tOp (rI0 λi j=>.bl (decide (j<=i))) ta tb)):=⟨G5 b4A ha.h hb.h (J1 _)⟩
theorem b2U(K:PySem.W.Frag)(hu:X.A.units+60<cLine)(ha:JE X a ta)(hb:JE X b tb)(hK:X.K=K:=by rfl):JE X (.Compare a [.Eq] [b] pos) (tOp (a1W K false) ta tb):=⟨V8 (a8e K hu hK) ha.h hb.h (J1 _)⟩
theorem b2X(K:PySem.W.Frag)(hu:X.A.units+60<cLine)(ha:JE X a ta)(hb:JE X b tb)(hK:X.K=K:=by rfl):JT X (.Compare a [.Eq] [b] pos) (J7 (tOp (a1W K false) ta tb)):=⟨G5 (a8e K hu hK) ha.h hb.h (J1 _)⟩
theorem a1u(K:PySem.W.Frag)(hu:X.A.units+60<cLine)(ha:JE X a ta)(hb:JE X b tb)(hK:X.K=K:=by rfl):JT X (.Compare a [.NotEq] [b] pos) (J7 (tOp (a1W K true) ta tb)):=⟨G5 (b2A K hu hK) ha.h hb.h (J1 _)⟩
theorem b2T(ha:JE X a ta)(hb:JE X b tb):JE X (.Compare a [.Is] [b] pos) (tOp (λx y H Q=>y=.non/\Q (.bl (decide (x=.non))) H) ta tb):=⟨V8 a8c ha.h hb.h (J1 _)⟩
theorem X6(ha:JE X a ta)(hb:JE X b tb):JT X (.Compare a [.Is] [b] pos) (J7 (tOp (λx y H Q=>y=.non/\Q (.bl (decide (x=.non))) H) ta tb)):=⟨G5 a8c ha.h hb.h (J1 _)⟩
theorem a5y(ha:JE X a ta)(hb:JE X b tb):JT X (.Compare a [.IsNot] [b] pos) (J7 (tOp (λx y H Q=>y=.non/\Q (.bl (!decide (x=.non))) H) ta tb)):=⟨G5 a9Y ha.h hb.h (J1 _)⟩
theorem b2W(K:PySem.W.Frag)(ha:JE X a ta)(hb:JE X b tb)(hm:behindInMarks .In b=false)(hK:X.K=K:=by rfl):JT X (.Compare a [.In] [b] pos) (J7 (tOp (rIn K false) ta tb)):=⟨G5 (b2G K hK) ha.h hb.h hm⟩
theorem a6s(K:PySem.W.Frag)(ha:JE X a ta)(hb:JE X b tb)(hm:behindInMarks .NotIn b=false)(hK:X.K=K:=by rfl):JT X (.Compare a [.NotIn] [b] pos) (J7 (tOp (rIn K true) ta tb)):=⟨G5 (a6f K hK) ha.h hb.h hm⟩
theorem Z6(h:JW X e tA):JT X e tA:=⟨h.h.pt⟩
theorem a0R(ha:JT X a tA):JW X (.BoolOp .And [a] pos) tA:=⟨pw_and1 ha.h⟩
theorem R1(ha:JT X a tA):JW X (.BoolOp .Or [a] pos) tA:=⟨pw_or1 ha.h⟩
theorem a3e(ha:JT X a tA)(hb:JW X (.BoolOp .And (b::rest) pos) tB):JW X (.BoolOp .And (a::b::rest) pos) (b3V tA tB):=⟨pw_and ha.h hb.h⟩
theorem T6(ha:JT X a tA)(hb:JW X (.BoolOp .Or (b::rest) pos) tB):JW X (.BoolOp .Or (a::b::rest) pos) (tOr tA tB):=⟨pw_or ha.h hb.h⟩
theorem V1(ha:JT X a tA):JT X (.UnaryOp .Not a pos) (b3R tA):=⟨b1X ha.h⟩
theorem T0(K:PySem.W.Frag)(ha:JE X a ta)(he:∀whole,isTrue a X.env whole=(do let v <-whole;standAt a.pos;holding [v] (truthy v)):=by intro _;rfl)(hK:X.K=K:=by rfl):JT X a (b3O K ta):=⟨a6b K ha.h he hK⟩
theorem jaN:JA X [] a0l:=⟨b2w⟩
theorem jaC(ha:JE X e te)(hr:JA X es t)(hs:starEach (e::es) X.env=(false,eval e X.env)::starEach es X.env:=by rfl):JA X (e::es) (a0A te t):=⟨a9W ha.h hr.h hs⟩
theorem a4e{x1}(h:JA X es t):JE X (.Tuple es x1 pos) (b3N t):=⟨b2l h.h⟩
theorem C5(h:JA X es t):JE X (.List es pos) (a7g t):=⟨b2q h.h⟩
theorem J5(K:PySem.W.Frag)(ha:JE X a ta)(hb:JE X b tb)(hs:a0Y b:=by intro _ _;rfl)(hK:X.K=K:=by rfl):JE X (.Subscript a b pos) (tOp (a6a K) ta tb):=⟨a7U (a8D K hK) ha.h hb.h hs⟩
theorem a4g(K:PySem.W.Frag)(ha:JE X a ta)(hb:JE X b tb)(hs:a0Y b:=by intro _ _;rfl)(hK:X.K=K:=by rfl):JE X (.Subscript a b pos) (tOp (b1U K) ta tb):=⟨a7U (b0v K hK) ha.h hb.h hs⟩
theorem Q0:JO X none M5:=⟨a9B⟩
theorem P0(h:JE X e te):JO X (some e) (b0J te):=⟨a9A h.h⟩
theorem a0E(K:PySem.W.Frag){lo hi:Option Expr}{tl th:TO}(he:JE X e te)(hl:JO X lo tl)(hu:JO X hi th)(hK:X.K=K:=by rfl):JE X (.Subscript e (.Slice lo hi none p2) pos) (tSl (b1T K) te tl th):=⟨a7R (a7q K hK) he.h hl.h hu.h⟩
theorem A7{k:Nat}{ps:List Str}{sp:Sp}{x:Str}(O:Ok X.prog X.w X.K X.mg X.base x k ps sp)(hr:Room k X.A)(hg:Gl X x)(ha:JA X (e::es) t)(hdb:(x==("__debug__" : Str))=false:=by decide)
  (he:starEach (e::es) X.env=(false,eval e X.env)::starEach es X.env:=by rfl) (hpl:(backTo pos (starEach es X.env)).any (·.1)=false:=by rfl):JE X (.Call (.Name x p) (e::es) [] pos) (a5k sp [] E0 t):=⟨a8a O hr hg ha.h hdb he hpl⟩
theorem G0(K:PySem.W.Frag)(hg:Gl X "len")(hm:X.mg "len"=none)(ha:JA X (e::es) t)(hK:X.K=K:=by rfl)(he:starEach (e::es) X.env=(false,eval e X.env)::starEach es X.env:=by rfl)(hpl:(backTo pos (starEach es X.env)).any (·.1)=false:=by rfl):JE X (.Call (.Name "len" p) (e::es) [] pos) (tCB (b4n K) t):=⟨L4 (a6Q K hK) hg hm a5c ha.h (by decide) (by decide) he hpl⟩
theorem a3i(K:PySem.W.Frag)(hg:Gl X "all")(hm:X.mg "all"=none)(ha:JA X (e::es) t)(hc:X.calm=true:=by rfl)(hK:X.K=K:=by rfl)(he:starEach (e::es) X.env=(false,eval e X.env)::starEach es X.env:=by rfl)(hpl:(backTo pos (starEach es X.env)).any (·.1)=false:=by rfl):JE X (.Call (.Name "all" p) (e::es) [] pos) (tCB (b1W K) t):=⟨L4 (a6V K hc hK) hg hm b3B ha.h (by decide) (by decide) he hpl⟩
theorem E5(K:PySem.W.Frag)(hg:Gl X "isinstance")(hm:X.mg "isinstance"=none)(ha:JA X (e::es) t)(hK:X.K=K:=by rfl)(he:starEach (e::es) X.env=(false,eval e X.env)::starEach es X.env:=by rfl)(hpl:(backTo pos (starEach es X.env)).any (·.1)=false:=by rfl):JE X (.Call (.Name "isinstance" p) (e::es) [] pos) (tCB (b1V K) t):=⟨L4 (a6R K hK) hg hm a2f ha.h (by decide) (by decide) he hpl⟩
theorem b3c(hg:Gl X "min")(hm:X.mg "min"=none)(ha:JA X (e::es) t)(hc:X.calm=true:=by rfl)(he:starEach (e::es) X.env=(false,eval e X.env)::starEach es X.env:=by rfl)(hpl:(backTo pos (starEach es X.env)).any (·.1)=false:=by rfl):JE X (.Call (.Name "min" p) (e::es) [] pos) (tCB (b4l) t):=⟨L4 (a6M hc) hg hm b3z ha.h (by decide) (by decide) he hpl⟩
theorem E3(K:PySem.W.Frag)(hg:Gl X "tuple")(hm:X.mg "tuple"=none)(ha:JA X (e::es) t)(hK:X.K=K:=by rfl)(he:starEach (e::es) X.env=(false,eval e X.env)::starEach es X.env:=by rfl)(hpl:(backTo pos (starEach es X.env)).any (·.1)=false:=by rfl):JE X (.Call (.Name "tuple" p) (e::es) [] pos) (tCB (a7u K) t):=⟨N6 (a4u K hK) hg hm a1P ha.h (by decide) (by decide) he hpl⟩
theorem a5A(K:PySem.W.Frag)(hg:Gl X "list")(hm:X.mg "list"=none)(ha:JA X (e::es) t)(hK:X.K=K:=by rfl)(he:starEach (e::es) X.env=(false,eval e X.env)::starEach es X.env:=by rfl)(hpl:(backTo pos (starEach es X.env)).any (·.1)=false:=by rfl):JE X (.Call (.Name "list" p) (e::es) [] pos) (tCB (b1k K) t):=⟨N6 (a5a K hK) hg hm b0C ha.h (by decide) (by decide) he hpl⟩
theorem a3h(hg:Gl X "int")(hm:X.mg "int"=none)(ha:JA X (e::es) t)(he:starEach (e::es) X.env=(false,eval e X.env)::starEach es X.env:=by rfl)(hpl:(backTo pos (starEach es X.env)).any (·.1)=false:=by rfl):JE X (.Call (.Name "int" p) (e::es) [] pos) (tCB (b4p) t):=⟨N6 a6T hg hm a5d ha.h (by decide) (by decide) he hpl⟩
theorem C8(K:PySem.W.Frag)(ho:JE X o to)(ha:JA X (e::es) t)(hK:X.K=K:=by rfl)(hbase:attributeBase o "append" X.env (eval o X.env)=eval o X.env:=by rfl)
  (hfew:((backTo cpos (starEach (e::es) X.env)).all (λx=>!x.1) && (backToKw cpos (keywordEach [] X.env)).all (λx=>x.1.isSome) && decide ((e::es).length+([]:List Keyword).length+(if ([]:List Keyword).isEmpty then 0 else 1)<30))=true:=by rfl)
  (hline:(apos.endLine==cpos.line)=true:=by rfl) (hs:starEach (e::es) X.env=(false,eval e X.env)::starEach es X.env:=by rfl) (hplain:(backTo cpos (starEach es X.env)).any (·.1)=false:=by rfl) :
  JE X (.Call (.Attribute o "append" apos) (e::es) [] cpos) (tBM K "list" a0P to t):=⟨U4 K PySem.F.plainAttrs_list PySem.F.slot_list_append PySem.F.type_list_append a6m ho.h ha.h hK hbase hfew hline hs hplain⟩
theorem Z8(K:PySem.W.Frag)(ho:JE X o to)(ha:JA X (e::es) t)(hK:X.K=K:=by rfl)(hbase:attributeBase o "pop" X.env (eval o X.env)=eval o X.env:=by rfl)
  (hfew:((backTo cpos (starEach (e::es) X.env)).all (λx=>!x.1) && (backToKw cpos (keywordEach [] X.env)).all (λx=>x.1.isSome) && decide ((e::es).length+([]:List Keyword).length+(if ([]:List Keyword).isEmpty then 0 else 1)<30))=true:=by rfl)
  (hline:(apos.endLine==cpos.line)=true:=by rfl) (hs:starEach (e::es) X.env=(false,eval e X.env)::starEach es X.env:=by rfl) (hplain:(backTo cpos (starEach es X.env)).any (·.1)=false:=by rfl) :
  JE X (.Call (.Attribute o "pop" apos) (e::es) [] cpos) (tBM K "list" a7y to t):=⟨U4 K PySem.F.plainAttrs_list PySem.F.slot_list_pop PySem.F.type_list_pop a8o ho.h ha.h hK hbase hfew hline hs hplain⟩
theorem W1(K:PySem.W.Frag)(ho:JE X o to)(ha:JA X (e::es) t)(hK:X.K=K:=by rfl)(hbase:attributeBase o "extend" X.env (eval o X.env)=eval o X.env:=by rfl)
  (hfew:((backTo cpos (starEach (e::es) X.env)).all (λx=>!x.1) && (backToKw cpos (keywordEach [] X.env)).all (λx=>x.1.isSome) && decide ((e::es).length+([]:List Keyword).length+(if ([]:List Keyword).isEmpty then 0 else 1)<30))=true:=by rfl)
  (hline:(apos.endLine==cpos.line)=true:=by rfl) (hs:starEach (e::es) X.env=(false,eval e X.env)::starEach es X.env:=by rfl) (hplain:(backTo cpos (starEach es X.env)).any (·.1)=false:=by rfl) :
  JE X (.Call (.Attribute o "extend" apos) (e::es) [] cpos) (tBM K "list" a5o to t):=⟨U4 K PySem.F.plainAttrs_list PySem.F.slot_list_extend PySem.F.type_list_extend a6l ho.h ha.h hK hbase hfew hline hs hplain⟩
theorem A8{i:Nat}{x:Str}(hN:X.N.Nodup)(hi:X.N[i]?=some x)(hx:Loc X.env.scope x)(hf:X.fn x=true∨X.env.scope.names.lookup x=some .local:=by first|exact .inl rfl|exact .inr rfl|assumption):JG X (.Name x pos) (A9 i):=⟨a9O hN hi hx hf⟩
theorem E8:JGs X [] b0z:=⟨a9M⟩
theorem B1{g:TG}{u:TGs}(h1:JG X e g)(h2:JGs X es u)(hs:(assignEach (e::es) X.env).map (·.2)=assign e X.env::(assignEach es X.env).map (·.2):=by rfl):JGs X (e::es) (a2v g u):=⟨a7P h1.h h2.h hs⟩
theorem K4(K:PySem.W.Frag)(n:Nat){k:Nat}{u:TGs}(h:JGs X es u)(hc:X.calm=true:=by rfl)(hK:X.K=K:=by rfl)(hn:(assignEach es X.env).length=n:=by rfl)(hst:(assignEach es X.env).findIdx? (·.1)=none:=by rfl):JG X (.Tuple es k pos) (a8M K n u):=⟨a9N K hc h.h hK hn hst⟩
theorem b3a{i:Expr}{ti:TE}(ho:JE X o to)(hi:JE X i ti)
  (ha:∀v,assign (.Subscript o i pos) X.env v=(do
   let ov <-holding [v] (eval o X.env)
   let iv <-holding [v,ov] (eval i X.env)
   standAt pos
   holding [v,ov,iv] (setItem ov iv v)
   release [v,ov,iv] []):=by intro _;rfl):JG X (.Subscript o i pos) (b4K to ti a7x):=⟨b2i ho.h hi.h a3F ha⟩
theorem N3(K:PySem.W.Frag){tg l:Expr}{tl:TE}(hl:JE X l tl)(hK:X.K=K:=by rfl):JI X tg l (a8I K tl):=⟨a7O K hl.h hK⟩
theorem X7(K:PySem.W.Frag){tg l:Expr}{tl:TE}(hl:JE X l tl)(hK:X.K=K:=by rfl):JI X tg l (b3n K tl):=⟨a9J K hl.h hK⟩
theorem T3(K:PySem.W.Frag){kt:Nat}{tp:Pos}(hg:Gl X "zip")(hm:X.mg "zip"=none)(ha:JA X [a,b] t)(hK:X.K=K:=by rfl)(hs:starEach [a,b] X.env=[(false,eval a X.env),(false,eval b X.env)]:=by rfl)(hs2:starEach [b] X.env=[(false,eval b X.env)]:=by rfl) :
  JI X (.Tuple es kt tp) (.Call (.Name "zip" p) [a,b] [] pos) (b3m K t):=⟨a9I K hg hm ha.h hK hs hs2⟩
theorem R9{tg:Expr}(hg:Gl X "range")(hm:X.mg "range"=none)(ha:JA X [a] t)(hs:starEach [a] X.env=[(false,eval a X.env)]:=by rfl):JI X tg (.Call (.Name "range" p) [a] [] pos) (b1w t):=⟨a6e hg hm ha.h hs⟩
theorem E7:JF X [] Y7:=⟨a9H⟩
theorem a1v(h:JT X c tA):JF X [c] tA:=⟨a9G h.h⟩
theorem J2{tg iter elt:Expr}{ifs:List Expr}{scope:Scope}{N:List Str}{src:List (Option Nat)}{wi:TI}{g:TG}{tt:TT}(hi:JI X tg iter wi)(hcap:D0 scope X.env.scope=true)(hblk:M4 N src X.N scope=true)(hsc:a2S scope=true)
  (hg:∀cells C s H ex,JG (X.blk N scope cells C s H ex) tg g) (ht:∀cells C s H ex,JF (X.blk N scope cells C s H ex) ifs tt) (he:∀cells C s H ex,JE (X.blk N scope cells C s H ex) elt te)
  (hc:X.calm=true:=by rfl) (hs:∀x,foldedSetIterable iter X.env x=pure x:=by intro _;rfl):JE X (.ListComp elt [⟨tg,iter,ifs,0⟩] scope pos) (a3C src wi g tt te) :=
 ⟨a9T hc hi.h hcap hblk hsc (λ_ _ _ _ _=>(hg _ _ _ _ _).h) (λ_ _ _ _ _=>(ht _ _ _ _ _).h) (λ_ _ _ _ _=>(he _ _ _ _ _).h) hs⟩
variable {st:Stmt}{sts:List Stmt}{u v:TS}
theorem B6:JB X [] a7f:=⟨a9s⟩
theorem A1(h1:JS X st u)(h2:JB X sts v):JB X (st::sts) (b1H u v):=⟨a7F h1.h h2.h⟩
theorem A5(h1:JS X st u):JB X [st] u:=⟨a9r h1.h⟩
theorem B0(he:JE X e te):JS X (.Return (some e) pos) (b1I te):=⟨b2a he.h⟩
theorem C4(he:JE X e te)(hs:swapsWith e none pos.line X.env=pure false:=by rfl):JS X (.Expr e pos) (a5j te):=⟨a9u he.h hs⟩
theorem C0{A B:List Stmt}(hc:JT X c tA)(ha:JB X A u)(hb:JB X B v):JS X (.If c A B pos) (b1J tA u v):=⟨b4u hc.h ha.h hb.h⟩
theorem a3Z{B:List Stmt}(hc:JT X c tA)(hb:JB X B v)(hp:PassesOwn (model X.prog X.w) X.A X.env X.xe:=by exact PassesOwn.never):JS X (.While c B [] pos) (a7e tA v):=⟨a7G hp hc.h hb.h⟩
theorem R3{tg iter:Expr}{B:List Stmt}{wi:TI}{g:TG}(hi:JI X tg iter wi)(hg:JG X tg g)(hb:JB X B v)(hp:PassesOwn (model X.prog X.w) X.A X.env X.xe:=by exact PassesOwn.never)(hc:X.calm=true:=by rfl)
  (hs:∀x,foldedSetIterable iter X.env x=pure x:=by intro _;rfl):JS X (.For tg iter B [] pos) (b3S wi g v):=⟨b2b hp hc hi.h hg.h hb.h hs⟩
theorem B3{i:Nat}{x:Str}{pos':Pos}(hN:X.N.Nodup)(hi:X.N[i]?=some x)(hx:Loc X.env.scope x)(he:JE X e te)(hs:swapsWith e (some (.Name x pos')) pos.line X.env=pure false:=by rfl)
  (hf:X.fn x=true∨X.env.scope.names.lookup x=some .local:=by first|exact .inl rfl|exact .inr rfl|assumption):JS X (.Assign [.Name x pos'] e pos) (a5V te (A9 i)):=⟨b1Z hN hi hx he.h hs hf⟩
theorem O9{i:Nat}{y:Str}{py spos:Pos}{tg iter elt:Expr}{ifs:List Expr}{scope:Scope}{N:List Str}{src:List (Option Nat)}{wi:TI}{g:TG}{tt:TT}
  (hN:X.N.Nodup) (hy:X.N[i]?=some y) (hx:Loc X.env.scope y) (hi:JI X tg iter wi) (hcap:D0 scope X.env.scope=true) (hblk:M4 N src X.N scope=true) (hsc:a2S scope=true)
  (hg:∀cells C s H ex,JG (X.blk N scope cells C s H ex) tg g) (ht:∀cells C s H ex,JF (X.blk N scope cells C s H ex) ifs tt) (hel:∀cells C s H ex,JE (X.blk N scope cells C s H ex) elt te)
  (hc:X.calm=true:=by rfl) (hsw:swapsWith (.ListComp elt [⟨tg,iter,ifs,0⟩] scope pos) (some (.Name y py)) spos.line X.env=pure true:=by rfl) (hs:∀x,foldedSetIterable iter X.env x=pure x:=by intro _;rfl)
  (hf:X.fn y=true∨X.env.scope.names.lookup y=some .local:=by first|exact .inl rfl|exact .inr rfl|assumption) :
  JS X (.Assign [.Name y py] (.ListComp elt [⟨tg,iter,ifs,0⟩] scope pos) spos) (a5V (a3C src wi g tt te) (A9 i)) :=
 ⟨a9t hN hy hx hc hi.h hcap hblk hsc (λ_ _ _ _ _=>(hg _ _ _ _ _).h) (λ_ _ _ _ _=>(ht _ _ _ _ _).h) (λ_ _ _ _ _=>(hel _ _ _ _ _).h) hsw hs hf⟩
theorem a3f{tg:Expr}{g:TG}(he:JE X e te)(hg:JG X tg g)(hs:swapsWithSole [tg] e pos.line X.env=pure false:=by rfl)(hw:swappedStores [tg] e X.env=pure none:=by rfl)
  (h1:(assignEach [tg] X.env).map (·.2)=[assign tg X.env]:=by rfl):JS X (.Assign [tg] e pos) (a5V te g):=⟨b2d he.h hg.h hs hw h1⟩
theorem a4P(K:PySem.W.Frag){i:Expr}{ti:TE}{tpos:Pos}(ho:JE X o to)(hi:JE X i ti)(he:JE X e te)(hK:X.K=K:=by rfl)
  (ha:∀ov iv new,augStore i ov iv new=(do holding [new,ov,iv] (setItem ov iv new);release [new,ov,iv] [];pure .next):=by intros;rfl):JS X (.AugAssign (.Subscript o i tpos) .Add e pos) (b0O to ti te (a6a K) (ipI λi j=>i+j) a7x):=⟨a9w ho.h hi.h (a6z K hK) he.h b3j a3F ha⟩
end
section
variable {P:Program}{w:World}{K:PySem.W.Frag}{mg:Str->Option Value}{base:Heap}
theorem FunAt.okJ{x:Str}{st:Stmt}{N ps:List Str}{k:Nat}{sp:Sp}(F:FunAt K mg x st ps)(S:FnScope N ps (A3 st))(len:∀vs H Q E,sp vs H Q E->vs.length=ps.length)
  (hbody:∀(cdv:Value) (f:Addr) (A:Around) (outer:List Env) (s:Shared) (H:Hp) (vs:List V) (Q:VK) (E:XK),Room k (A.deeper (envOfC x (A3 st) s.heap.objs.size f cdv))->sp vs H Q E ->
   ∃t,JB (a2c CX0 P w K mg base N x (A3 st) f cdv A outer s H E).nox (G7 st) t/\t {nx:=λ_ H'=>Q .non H',rt:=Q} (start N vs) H):Ok P w K mg base x (k+1) ps sp :=
 F.ok S len λcdv f A outer s H vs Q E hr h=>let ⟨t,d,r⟩:=hbody cdv f A outer s H vs Q E hr h;⟨t,d.h,r⟩
theorem Fun.okJ{x qual:Str}{st:Stmt}{f:Addr}{fd:FuncData}{N ps:List Str}{k:Nat}{sp:Sp}(F:Fun K x qual st f fd)(S:FnScope N ps (A3 st))(len:∀vs H Q E,sp vs H Q E->vs.length=ps.length)
  (hbody:∀(cdv:Value) (A:Around) (outer:List Env) (s:Shared) (H:Hp) (vs:List V) (Q:VK) (E:XK),Room k (A.deeper (envOfC qual (A3 st) s.heap.objs.size f cdv))->sp vs H Q E ->
   ∃t,JB (a2c CX0 P w K mg base N qual (A3 st) f cdv A outer s H E).nox (G7 st) t/\t {nx:=λ_ H'=>Q .non H',rt:=Q} (start N vs) H):FnOk P w K mg base CX0 (k+1) f fd ps sp :=
 F.ok S len λcdv A outer s H vs Q E hr h=>let ⟨t,d,r⟩:=hbody cdv A outer s H vs Q E hr h;⟨t,d.h,r⟩
end
def a5l(K:PySem.W.Frag):Sp:=λvs H Q _=>∃(a:Addr) (ns:List Int),vs=[.ref a]/\SqL K H a (ns.map V.int)/\ns.length<=63/\∀H',Q (.bl true) H'
theorem law_walk{l:PySem.W.OpenLaw}{q:Program}{loose:List Str}{XP:(Str->Option Value)->Heap->Prop}{YP:World->Heap->Prop}{d:DefRec}{K:Params->PySem.W.Frag}(k:Nat)(hn:l.most=some 63)(hdf:d.params.defaults=[])(hr:Room k callerA)
  (hY:∀(w:World) (h:Heap),YP w h->(K w.params).In h)
  (F:∀(w:World) (mg:Str->Option Value) (fa:Addr) (h:Heap),(K w.params).In h->h.Ns mainGlobals mg->mg d.name=some (.ref fa) ->
   ∃fd:FuncData,(∀(s:Shared) (u:Value),BindsTo s fd ⟨[u],[]⟩ [("_law_script",u)])/\∀base:Heap,(K w.params).In base->base.Ns mainGlobals mg->FnOk l.prog w (K w.params) mg base CX0 k fa fd ["_law_script"] (a5l (K w.params))) :
  PySem.W.WalkO q loose XP YP l.row.toRowW d [] (λf vs=>PySem.call f vs) :=
 L2.walk_of (n:=63) (k:=k) (x:="_law_script") (CX:=λ_=>CX0) (sp:=λw=>a5l (K w.params)) hn (by decide) hdf hr hY F (λ_ _ a ns hl _ hS=>⟨a,ns,rfl,hS,hl,λ_=>rfl⟩) λ_ _ _ _ _ z=>z
def Its(H:Hp)(vs:List V)(rss:LLI):Prop:=vs.length=rss.length/\∀(i:Nat) (v:V),vs[i]?=some v->∃r,rss[i]?=some r/\IT H v r
theorem Its.same{H H':Hp}{vs:List V}{rss:LLI}(h:Its H vs rss)(s:Same H H'):Its H' vs rss:=⟨h.1,λi v e=>let ⟨r,e1,e2⟩:=h.2 i v e;⟨r,e1,e2.same s⟩⟩
theorem Its.nil{H:Hp}:Its H [] []:=⟨rfl,λi v e=>by simp at e⟩
theorem Its.snoc{H:Hp}{vs:List V}{rss:LLI}{v:V}{r:List Int}(h:Its H vs rss)(hv:IT H v r):Its H (vs++[v]) (rss++[r]):=by
 refine⟨by simp[h.1],λi u e=>?_⟩;by_cases hi:i<vs.length
 .rw[List.getElem?_append_left hi]at e;obtain⟨q,e1,e2⟩:=h.2 i u e;exact⟨q,by rw[List.getElem?_append_left (by rw[<-h.1];exact hi)];exact e1,e2⟩
 .rw[List.getElem?_append_right (by omega)]at e;have hj:i-vs.length=0:=by
   have:=(List.getElem?_eq_some_iff.mp e).1;simp at this;omega
  rw[hj]at e;simp at e;subst e;refine⟨r,?_,hv⟩;rw[List.getElem?_append_right (by rw[<-h.1];omega),<-h.1,hj];rfl
theorem a8w{X:Cx}{st:Stmt}:JS X st (λ_ _ _=>False):=⟨λ_ _ _ _ _ _ h=>h.elim⟩
end L2
namespace L2
open PySem PySem.Spec PyProof.Rows PySem.W
def Cov(l:List Env)(H:Hp)(h0 h B:Heap):Prop:=∀b o,h.get? b=some o->b∉frs l->(H b≠none∨∃o',h0.get? b=some o')->B.get? b=some o
def XP(X:Cx)(pins:List (Addr×Obj))(R:St->Addr->Hp->Prop)(e:Value)(s':Shared):Prop :=
 ∃(σ1:St) (H1:Hp) (s1:Shared) (p C:Addr) (H':Hp) (B:Heap) (a0:Value),e=.ref p/\Inv X pins σ1 H1 s1/\s'.os=s1.os/\AllBare s'.gens/\Un (frs X.stack) [] H1 H' s1.heap s'.heap/\HOk X.prog X.w H' s'.heap /\
  H' p=none/\Heap.FlyingW B X.stack p (.ref C) a0 s'.heap/\Cov X.stack H' s1.heap s'.heap B/\R σ1 C H'
section
variable {M:Model}{A:Around}{E:Value->Shared->Prop}
end
section
variable {X:Cx}{pins:List (Addr×Obj)}{σ:St}{H1 H':Hp}{s1 s':Shared}{p C:Addr}{B:Heap}{a0:Value}{h2:Heap}
end
section
variable {X:Cx}{pins:List (Addr×Obj)}{σ:St}{H:Hp}{s:Shared}
end
section
variable {X:Cx}{k:Nat}{ps:List Str}{sp:Sp}{x y:Str}{p pos cpos pos':Pos}{e:Expr}{es:List Expr}{t:TA}{i:Nat}
end
end L2
namespace L2
open PySem PySem.Spec PyProof.Rows PySem.W Builtin Builtin.ObjectAttr Builtin.Getset_descriptor
section
variable {K:PySem.W.Frag}{prog:Program}{w:World}{A:Around}{E:Value->Shared->Prop}{h:Heap}{g:Array GenState}{d:Drawn}{t:Nat}{os:OsState}{a:Addr}{o:Obj}
 {nm q:Str}{C N:Addr}{bs bm:List Value}{hdct:Bool}{sn:List Str}{sub:List Value}{ab:Bool}{col:Option Bool}{dd:Option Addr}{k0 k1 k2 k3 k5:Option Value}{newId:String}
end
section
variable {X:Cx}{es:List Expr}{e:Expr}{t:TA}{pos p:Pos}
theorem a1y{x:Str}{v:V}{u:Value}(hg:Gl X x)(hm:X.mg x=some u)(r:RelV v u)(hd:(x==("__debug__" : Str))=false:=by decide):JE X (.Name x pos) (tC v):=⟨a9Q hg hm r hd⟩
end
end L2
namespace L2
open PySem PySem.Spec PyProof.Rows
theorem L7{α:Type}{ca:α->V}{xs:List α}{i:Nat}{x:V}(h:(xs.map ca)[i]?=some x):∃z,xs[i]?=some z/\x=ca z:=by
 rw[List.getElem?_map]at h;cases e:xs[i]? with
 |none=>rw[e]at h;cases h
 |some z=>rw[e]at h;exact⟨z,rfl,(Option.some.inj h).symm⟩
theorem Its.put{H:Hp}{vs:List V}{rss:LLI}{c:Addr}{xs:List V}{o:HO}(h:Its H vs rss)(hc:H c=some (.lst xs)):Its (upd H c o) vs rss:=⟨h.1,λi v e=>let ⟨r,e1,a,e2,q⟩:=h.2 i v e;⟨r,e1,a,e2,by rw[A6 (a0B q hc (by intro z;cases z))];exact q⟩⟩
open _root_.HT
section
variable {prog:Program}{w:World}{A:Around}{E:Value->Shared->Prop}{s:Shared}
theorem a4l{α β:Type}{f g:α->Option β}:∀(l:List α),(∀m∈l,f m=g m)->l.filterMap f=l.filterMap g
 |[],_=>rfl
 |a::l,h=>by
  rw[List.filterMap_cons,List.filterMap_cons,h a (List.mem_cons_self ..),a4l l λm hm=>h m (List.mem_cons_of_mem _ hm)]
theorem a7N(xs:Array Value):((List.range xs.size).filterMap λ(m:Nat)=>xs[(((xs.size:Int)-1)+(m:Int)*(-1)).toNat]?).toArray=xs.toList.reverse.toArray:=by
 congr 1;have e:∀m∈List.range xs.size,xs[(((xs.size:Int)-1)+(m:Int)*(-1)).toNat]?=some (xs.toList.reverse.getD m .none):=λm hm=>by
  have hm':m<xs.size:=List.mem_range.mp hm;have e1:(((xs.size:Int)-1)+(m:Int)*(-1)).toNat=xs.size-1-m:=by omega
  rw[e1,List.getD_eq_getElem?_getD,List.getElem?_reverse (by simpa using hm'),Array.length_toList,Array.getElem?_toList,Array.getElem?_eq_getElem (by omega)];rfl
 rw[a4l _ e];rw[show(List.range xs.size).filterMap (λm=>some (xs.toList.reverse.getD m .none))=(List.range xs.size).map (λm=>xs.toList.reverse.getD m .none)from congrFun (List.filterMap_eq_map (f:=λm=>xs.toList.reverse.getD m .none)) _];refine List.ext_getElem (by simp) λi h1 h2=>?_;simp only[List.getElem_map,List.getElem_range];rw[List.getD_eq_getElem?_getD,List.getElem?_eq_getElem h2];rfl
end
section
variable {X:Cx}{e:Expr}{te:TE}{lo hi:Option Expr}{tl th:TO}{pos p2:Pos}
end
end L2
namespace L2
open PySem PySem.Spec PyProof.Rows
section
variable {X:Cx}
end
section
variable {X:Cx}
def b4t:RL:=λxs H Q=>∃i:Int,xs=[.int i]/\Q (.int (if i<0 then -i else i)) H
theorem a6W:E9 X (.builtin "abs") b4t:=by
 intro pins s σ H xs us Q I rv h;obtain⟨i,rfl,q⟩:=h;obtain⟨u,rfl,ru⟩:=rv.one;obtain⟨t,rfl⟩:=ru;exact call_abs_int λu tk=>⟨.int _,H,I.tok tk,⟨u,rfl⟩,q⟩
theorem a3j{e:Expr}{es:List Expr}{t:TA}{p pos:Pos}(hg:Gl X "abs")(hm:X.mg "abs"=none)(ha:JA X (e::es) t)(he:starEach (e::es) X.env=(false,eval e X.env)::starEach es X.env:=by rfl)(hpl:(backTo pos (starEach es X.env)).any (·.1)=false:=by rfl):JE X (.Call (.Name "abs" p) (e::es) [] pos) (tCB b4t t):=⟨L4 a6W hg hm b3C ha.h (by decide) (by decide) he hpl⟩
def b1j(K:PySem.W.Frag):RL:=λxs H Q=>∃(k:Bool) (p:Addr) (ns:List Int),xs=[.ref p]/\SqK k K H p (ns.map V.int)/\0<ns.length/\∀M,M∈ns->(∀a∈ns,a<=M)->Q (.int M) H
theorem a6O(K:PySem.W.Frag)(hc:X.calm=true)(hK:X.K=K:=by rfl):E9 X (.builtin "max") (b1j K):=by
 subst hK;intro pins s σ H xs us Q I rv h;obtain⟨k,p,ns,rfl,hs,hn,q⟩:=h;obtain⟨u,rfl,ru⟩:=rv.one;cases ru;obtain⟨its,ri,sq,hz⟩:=I.sqk hs;have hl:=ri.length;rw[List.length_map]at hl;have hh:X.A.in1.handled=none:=I.ok.hd hc;have hat:∀i v,its.toArray[i]?=some v->∃t,v=Value.int (ns.getD i 0) t:=λi v hv=>by
  have hv':its[i]?=some v:=by simpa using hv
  obtain⟨hi,_⟩:=List.getElem?_eq_some_iff.mp hv';have hy:(ns.map V.int)[i]?=some (.int ns[i]):=by rw[List.getElem?_map,List.getElem?_eq_getElem (by omega)];rfl
  obtain⟨v',e1,t,e2⟩:=ri.get hy;rw[hv']at e1;cases e1;exact⟨t,by rw[e2,List.getD_eq_getElem?_getD,List.getElem?_eq_getElem (by omega)];rfl⟩
 refine call_max_walk (N8 sq ?_);refine⟨s.heap.objs.size,_,_,_,_,_,_,rfl,a3x (k:=k) (l:=p) (items:=its.toArray) hh (a3W sq),a8F sq,λb hb=>?_,?_,CmpOf.ints_gt (λi=>ns.getD i 0) hat,λv h' tk hv hk=>?_⟩
 .rw[Heap.size_push];obtain⟨o,e⟩:=sq.get;have hlt:=Heap.lt_size e;simp only[List.mem_cons,List.not_mem_nil,or_false]at hb;rcases hb with rfl|rfl
  .exact Nat.lt_succ_self _
  .exact Nat.lt_succ_of_lt hlt
 .rw[List.size_toArray];omega
 .obtain⟨t,rfl⟩:=hat _ _ hv;obtain⟨b1,b2⟩:=argBest_gt (λi=>ns.getD i 0) (its.toArray.size-1);have hsz:its.toArray.size=ns.length:=by rw[List.size_toArray];exact hl.symm
  have hb:argBest (λi j=>decide (ns.getD i 0 > ns.getD j 0)) (its.toArray.size-1)<ns.length:=by omega
  refine⟨.int _,H,I.kept (t':=tk) (a3X hk),⟨t,rfl⟩,q _ ?_ λa ha=>?_⟩
  .rw[List.getD_eq_getElem?_getD,List.getElem?_eq_getElem hb];exact List.getElem_mem hb
  .obtain⟨i,hi,rfl⟩:=List.mem_iff_getElem.mp ha;have:=b2 i (by omega);have e:ns.getD i 0=ns[i]:=by rw[List.getD_eq_getElem?_getD,List.getElem?_eq_getElem hi];rfl
   rw[<-e];exact this
theorem b0n(K:PySem.W.Frag){e:Expr}{t:TA}{p pos:Pos}(hg:Gl X "max")(hm:X.mg "max"=none)(ha:JA X [e] t)(hc:X.calm=true:=by rfl)(hK:X.K=K:=by rfl)(he:starEach [e] X.env=(false,eval e X.env)::starEach [] X.env:=by rfl)(hpl:(backTo pos (starEach [] X.env)).any (·.1)=false:=by rfl):JE X (.Call (.Name "max" p) [e] [] pos) (tCB (b1j K) t):=⟨L4 (a6O K hc hK) hg hm b3A ha.h (by decide) (by decide) he hpl⟩
end
section
variable {prog:Program}{w:World}{A:Around}{E:Value->Shared->Prop}{s:Shared}{k:Bool}
theorem b1D{α:Type}{M:Model}{A:Around}{c:Bool}{t u:Sem α}{Q:α->Shared->Prop}{E:Value->Shared->Prop}{s:Shared}(h1:wpAny M A t Q E s)(h2:wpAny M A u Q E s):wpAny M A (if c=true then t else u) Q E s:=by
 cases c
 .exact h2
 .exact h1
end
section
variable {X:Cx}
end
theorem a3w:bootBuiltins "enumerate"=some (.type "enumerate"):=by kernel_rfl
section
variable {X:Cx}
end
section
variable {M:Model}{A:Around}{E:Value->Shared->Prop}
end
section
variable {X:Cx}{k:Nat}{ps:List Str}{sp:Sp}{x:Str}{p pos cpos:Pos}{e:Expr}{es:List Expr}{t:TA}
end
section
variable (P:Program) (w:World)
end
section
variable {P:Program}{w:World}{H H':Hp}{h h':Heap}{a:Addr}{o:HO}
end
section
variable {P:Program}{w:World}{H:Hp}{h h':Heap}{x e:Addr}{o':HO}
end
section
variable {fs fs' ex ex':List Addr}{H H1 H2:Hp}{h h1 h2 h':Heap}{a x e:Addr}{o:HO}
end
section
variable {X:Cx}{pins:List (Addr×Obj)}{σ:List (Option V)}{H H':Hp}{s:Shared}{h':Heap}
end
section
variable {X:Cx}
variable {a b:Expr}{ta tb:TE}{pos:Pos}
variable {tA tB':TT}{rest:List Expr}
end
section
variable {X:Cx}{pins:List (Addr×Obj)}{σ:St}{H:Hp}{s:Shared}{a:Addr}{xs ys:List V}
end
section
variable {X:Cx}{pins:List (Addr×Obj)}{σ:St}{H:Hp}{s:Shared}{E:Value->Shared->Prop}
end
section
variable {X:Cx}{st:Stmt}{rest:List Stmt}{t u:TS}{e:Expr}{te:TE}{pos:Pos}
end
section
variable {X:Cx}{pos:Pos}
end
section
variable {X:Cx}{tg:Expr}
end
section
variable {X:Cx}{a b c:Expr}{ta tb tc:TE}{pos:Pos}
end
section
variable {prog:Program}{w:World}{A:Around}{E:Value->Shared->Prop}{s:Shared}{K:PySem.W.Frag}{x dx C f:Addr}{mA:Str->Option Value}{name:Str}{v:Value}
end
section
variable {P:Program}{w:World}{H H':Hp}{h h':Heap}{a C dx:Addr}{fs fs':List (Str×V)}
end
section
variable {X:Cx}{pins:List (Addr×Obj)}{σ:St}{H:Hp}{s:Shared}{a C dx:Addr}{fs:List (Str×V)}{f:Str}{v:V}{A:Around}{E:Value->Shared->Prop}
end
section
variable {X:Cx}{o e value:Expr}{f:Str}{pos pos' tpos:Pos}{ta tv:TE}
end
section
variable {X:Cx}{pins:List (Addr×Obj)}{σ:St}{H:Hp}{s:Shared}{A:Around}{E:Value->Shared->Prop}{Q:Value->Shared->Prop}{c:Value}{b:Bool}
end
section
variable {X:Cx}{e:Expr}{es:List Expr}{te:TE}{t:TA}{pos:Pos}
end
section
variable {X:Cx}{pins:List (Addr×Obj)}{σ:St}{H:Hp}{s s':Shared}
end
section
variable {X:Cx}{CX:CXT}{k:Nat}{f C:Addr}{fd:FuncData}{ps:List Str}{sp:Sp}{dvs:List V}{ds:List Value}{E:XK}{x m:Str}{p pos apos:Pos}{e o:Expr}{es:List Expr}{ta:TE}{t:TA}
end
section
variable {X:Cx}{CX:CXT}{k:Nat}{f C:Addr}{fd:FuncData}{ps ks:List Str}{sp:Sp}{E:XK}{x m:Str}{p pos apos kpos:Pos}{e o:Expr}{es:List Expr}{kws:List Keyword}{te ta:TE}{t tk:TA}{nm:Option Str}
variable {g:List Value->List Value->List Value}{gV:List V->List V->List V}
end
section
variable {X:Cx}{x:Str}{p pos:Pos}{e:Expr}{es:List Expr}{t:TA}{id T:String}{r:List V->Hp->VK->Prop}
end
section
variable {κ:Type} [DecidableEq κ]
noncomputable def T8(kvs:List (κ×V))(k:κ):Option V:=(kvs.find? λkv=>decide (kv.1=k)).map (·.2)
noncomputable def R0(kvs:List (κ×V))(k:κ)(v:V):List (κ×V) :=
 if (kvs.any λkv=>decide (kv.1=k))=true then kvs.map (λkv=>if kv.1=k then(kv.1,v)else kv)else kvs++[(k,v)]
theorem Y1{p:κ×V}{r:List (κ×V)}{k:κ}(e:p.1=k):T8 (p::r) k=some p.2:=by simp[T8,List.find?_cons,e]
theorem Y2{p:κ×V}{r:List (κ×V)}{k:κ}(e:¬p.1=k):T8 (p::r) k=T8 r k:=by simp[T8,List.find?_cons,e]
theorem a1a(k:κ):∀kvs:List (κ×V),(kvs.any λkv=>decide (kv.1=k))=(T8 kvs k).isSome
 |[]=>rfl
 |p::r=>by
  rw[List.any_cons];by_cases e:p.1=k
  .simp only[Y1 e,decide_eq_true e,Bool.true_or,Option.isSome_some]
  .rw[Y2 e,decide_eq_false e,Bool.false_or];exact a1a k r
theorem U9(kvs:List (κ×V))(k:κ)(v:V):(R0 kvs k v).length<=kvs.length+1:=by
 unfold R0;split
 .rw[List.length_map];omega
 .rw[List.length_append,List.length_cons,List.length_nil];omega
theorem a7C{kvs:List (κ×V)}{k:κ}(v:V)(h:T8 kvs k=none):R0 kvs k v=kvs++[(k,v)]:=by
 unfold R0;rw[a1a,h];exact if_neg (by decide)
theorem RelO.isSome_eq{o:Option V}{u:Option Value}(r:RelO o u):o.isSome=u.isSome:=by
 cases o with
 |none=>cases u with
  |none=>rfl
  |some _=>exact(show False from r).elim
 |some _=>cases u with
  |none=>exact(show False from r).elim
  |some _=>rfl
theorem RelO.getD{o:Option V}{u:Option Value}{d:V}{d':Value}(r:RelO o u)(rd:RelV d d'):RelV (o.getD d) (u.getD d'):=by
 cases o with
 |none=>cases u with
  |none=>exact rd
  |some _=>exact(show False from r).elim
 |some _=>cases u with
  |none=>exact(show False from r).elim
  |some _=>exact r
theorem KV.val{kvs:List (κ×V)}{vs:List (κ×Value)}(r:KV kvs vs)(k:κ):RelO (T8 kvs k) (valueAt vs k):=by
 unfold KV at r;induction r with
 |nil=>exact True.intro
 |@cons p q ps qs h t ih =>
  obtain⟨h1,h2⟩:=h;by_cases e:p.1=k
  .have e':q.1=k:=h1.symm.trans e;have b:valueAt (q::qs) k=some q.2:=by simp[valueAt,List.find?_cons,e']
   rw[Y1 e,b];exact h2
  .have e':¬q.1=k:=λz=>e (h1.trans z);have b:valueAt (q::qs) k=valueAt qs k:=by simp[valueAt,List.find?_cons,e']
   rw[Y2 e,b];exact ih
theorem KV.any{kvs:List (κ×V)}{vs:List (κ×Value)}(r:KV kvs vs)(k:κ):(kvs.any λkv=>decide (kv.1=k))=vs.any λkv=>decide (kv.1=k):=by
 unfold KV at r;induction r with
 |nil=>rfl
 |cons h t ih=>rw[List.any_cons,List.any_cons,ih,h.1]
theorem KV.repl{kvs:List (κ×V)}{vs:List (κ×Value)}(r:KV kvs vs)(k:κ){y:V}{u:Value}(ry:RelV y u) :
  KV (kvs.map λkv=>if kv.1=k then(kv.1,y)else kv) (vs.map λkv=>if kv.1=k then(kv.1,u)else kv):=by
 unfold KV at r⊢;induction r with
 |nil=>exact .nil
 |@cons p q ps qs h t ih =>
  rw[List.map_cons,List.map_cons];refine .cons ?_ ih;obtain⟨h1,h2⟩:=h;by_cases e:p.1=k
  .rw[if_pos e,if_pos (h1.symm.trans e)];exact⟨h1,ry⟩
  .rw[if_neg e,if_neg (λz=>e (h1.trans z))];exact⟨h1,h2⟩
theorem KV.put{kvs:List (κ×V)}{vs:List (κ×Value)}(r:KV kvs vs)(k:κ){y:V}{u:Value}(ry:RelV y u):KV (R0 kvs k y) (stored vs k u):=by
 unfold R0 stored;rw[r.any k];by_cases e:(vs.any λkv=>decide (kv.1=k))=true
 .rw[if_pos e,if_pos e];exact r.repl k ry
 .rw[if_neg e,if_neg e];exact Paired.snoc r ⟨rfl,ry⟩
theorem KV.length{kvs:List (κ×V)}{vs:List (κ×Value)}(r:KV kvs vs):kvs.length=vs.length:=Paired.length r
end
theorem a1s{P:Program}{w:World}{k:Key}{u:Value}(r:RelV (kV k) u):(C3 P w).is k u=true:=by
 cases k with
 |inl i=>obtain⟨t,e⟩:=(show ∃t,u=Value.int i t from r);subst e;exact a3T P w i t
 |inr x=>obtain⟨t,e⟩:=(show ∃t,u=Value.str x t from r);subst e;exact a3S P w x t
theorem a2t{P:Program}{w:World}:∀{ks:List Key}{us:List Value},Vals (ks.map kV) us->ItemsAre (C3 P w) ks us
 |[],_,r=>by rw[List.map_nil]at r;cases r;exact .nil
 |k::ks,_,r=>by
  rw[List.map_cons]at r;cases r with
  |cons h t=>exact .cons (a1s h) (a2t t)
abbrev KT(H:Hp):List (List Key×V)->List (List Key×Addr×Value)->Prop:=Paired λp q=>p.1=q.1/\H q.2.1=some (.tup (p.1.map kV))/\RelV p.2 q.2.2
theorem KT.val{H:Hp}{kvs:List (List Key×V)}{xs:List (List Key×Addr×Value)}(r:KT H kvs xs)(k:List Key):RelO (T8 kvs k) ((atKey xs k).map (·.2)):=by
 induction r with
 |nil=>exact True.intro
 |@cons p q ps qs h t ih =>
  obtain⟨h1,_,h2⟩:=h;by_cases e:p.1=k
  .have e':q.1=k:=h1.symm.trans e;have b:atKey (q::qs) k=some q.2:=by simp[atKey,List.find?_cons,e']
   rw[Y1 e,b];exact h2
  .have e':¬q.1=k:=λz=>e (h1.trans z);have b:atKey (q::qs) k=atKey qs k:=by simp[atKey,List.find?_cons,e']
   rw[Y2 e,b];exact ih
theorem KT.repl{H:Hp}{kvs:List (List Key×V)}{xs:List (List Key×Addr×Value)}(r:KT H kvs xs)(k:List Key){y:V}{u:Value}(ry:RelV y u) :
  KT H (kvs.map λkv=>if kv.1=k then(kv.1,y)else kv) (xs.map (putAt k u)):=by
 induction r with
 |nil=>exact .nil
 |@cons p q ps qs h t ih =>
  rw[List.map_cons,List.map_cons];refine .cons ?_ ih;obtain⟨h1,h2,h3⟩:=h;unfold putAt;by_cases e:p.1=k
  .rw[if_pos e,if_pos (h1.symm.trans e)];exact⟨h1,h2,ry⟩
  .rw[if_neg e,if_neg (λz=>e (h1.trans z))];exact⟨h1,h2,h3⟩
theorem KT.put{H:Hp}{kvs:List (List Key×V)}{xs:List (List Key×Addr×Value)}(r:KT H kvs xs)(k:List Key){b:Addr}{y:V}{u:Value}(hb:H b=some (.tup (k.map kV)))(ry:RelV y u) :
  KT H (R0 kvs k y) (storedH xs k b u):=by
 have e:(kvs.any λkv=>decide (kv.1=k))=(atKey xs k).isSome:=by
  rw[a1a,(r.val k).isSome_eq,Option.isSome_map]
 unfold R0 storedH;rw[e];by_cases q:(atKey xs k).isSome=true
 .rw[if_pos q,if_pos q];exact r.repl k ry
 .rw[if_neg q,if_neg q];exact Paired.snoc r ⟨rfl,hb,ry⟩
theorem KT.keeps{H H':Hp}{kvs:List (List Key×V)}{xs:List (List Key×Addr×Value)}(r:KT H kvs xs)(ht:∀b ys,H b=some (.tup ys)->H' b=some (.tup ys)):KT H' kvs xs :=
 Paired.mapP r λ_ _ z=>⟨z.1,ht _ _ z.2.1,z.2.2⟩
section
variable {P:Program}{w:World}{H:Hp}{h:Heap}{a:Addr}
theorem b1g{u:HO}(ok:HOk P w H h)(e:Rd H a u):ObjOk P w H h a u:=e.ok ok
theorem a1I{kvs:List (Key×V)}(ok:HOk P w H h)(e:Rd H a (.dK kvs)):kvs.length<=sizeLine/\(a==sysModules)=false/\∃vs,KV kvs vs/\h.DictOf (C3 P w) a vs :=
 show ObjOk P w H h a (.dK kvs)from b1g ok e
theorem b1x{kvs:List (Key×V)}(ok:HOk P w H h)(e:H a=some (.dK kvs)):kvs.length<=sizeLine/\(a==sysModules)=false/\∃vs,KV kvs vs/\h.DictOf (C3 P w) a vs:=a1I ok (.inl e)
theorem a0s{ks:List Key}(ok:HOk P w H h)(e:H a=some (.tup (ks.map kV))):(tupleKind (C3 P w)).is h ks a:=by
 obtain⟨_,its,r,o,h1,h2,n,h3⟩:=(show ObjOk P w H h a (.tup (ks.map kV))from ok a _ e);exact⟨o,its.toArray,n,h1,congrArg Prod.fst h2,h3,by simpa using a2t r⟩
theorem a1G{kvs:List (List Key×V)}(ok:HOk P w H h)(e:Rd H a (.dT kvs)):kvs.length<=sizeLine/\(a==sysModules)=false /\
  ∃xs,KT H kvs xs/\h.DictOfH (tupleKind (C3 P w)) a xs:=by
 obtain⟨z,y,xs,r,o,es,ep,h1,h2,h3,h4,h5⟩:=(show ObjOk P w H h a (.dT kvs)from b1g ok e);refine⟨z,y,xs,r,o,es,ep,h1,h2,h3,h4,λx hx=>?_,h5⟩;have all:∀{l:List (List Key×V)}{m:List (List Key×Addr×Value)},KT H l m->∀x∈m,(tupleKind (C3 P w)).is h x.1 x.2.1:=by
  intro l m q;induction q with
  |nil=>intro x hx;exact nomatch hx
  |@cons p q ps qs hq t ih =>
   intro x hx;rcases List.mem_cons.mp hx with e|hx
   .subst e;exact a0s ok (by rw[<-hq.1];exact hq.2.1)
   .exact ih x hx
 exact all r x hx
theorem b4O{kvs:List (List Key×V)}(ok:HOk P w H h)(e:H a=some (.dT kvs)):kvs.length<=sizeLine/\(a==sysModules)=false /\
  ∃xs,KT H kvs xs/\h.DictOfH (tupleKind (C3 P w)) a xs:=a1G ok (.inl e)
end
def DGet(H:Hp)(a:Addr)(y:V)(r:Option V):Prop :=
 (∃kvs k,Rd H a (.dK kvs)/\y=kV k/\r=T8 kvs k)∨∃kvs k b,Rd H a (.dT kvs)/\y=.ref b/\H b=some (.tup (k.map kV))/\r=T8 kvs k
def DPut(H:Hp)(a:Addr)(y v:V)(H':Hp):Prop :=
 (∃kvs k,H a=some (.dK kvs)/\y=kV k/\kvs.length<sizeLine/\H'=upd H a (.dK (R0 kvs k v))) ∨
 ∃kvs k b,H a=some (.dT kvs)/\y=.ref b/\H b=some (.tup (k.map kV))/\kvs.length<sizeLine/\H'=upd H a (.dT (R0 kvs k v))
theorem DGet.k{H:Hp}{a:Addr}{kvs:List (Key×V)}{k:Key}(e:H a=some (.dK kvs)):DGet H a (kV k) (T8 kvs k):=.inl ⟨kvs,k,.inl e,rfl,rfl⟩
theorem DPut.k{H:Hp}{a:Addr}{kvs:List (Key×V)}{k:Key}{v:V}(e:H a=some (.dK kvs))(hl:kvs.length<sizeLine):DPut H a (kV k) v (upd H a (.dK (R0 kvs k v))):=.inl ⟨kvs,k,e,rfl,hl,rfl⟩
section
variable {X:Cx}{pins:List (Addr×Obj)}{σ:St}{H:Hp}{s:Shared}{a:Addr}{y v:V}{u r:Value}{o:Option V}{A:Around}{E:Value->Shared->Prop}
theorem Inv.big(I:Inv X pins σ H s):sysModules<s.heap.objs.size:=by
 have h:mainGlobals<s.heap.objs.size:=(I.mod.glob.keeps I.bk).lt;exact Nat.lt_trans (by decide) h
theorem a6I{Q:Value->Shared->Prop}(hu:A.units+1<cLine)(I:Inv X pins σ H s)(g:DGet H a y (some v))(ry:RelV y u)(h:∀w' s',Inv X pins σ H s'->RelV v w'->Q w' s') :
  wpAny (model X.prog X.w) A (getItem (.ref a) u) Q E s:=by
 rcases g with⟨kvs,k,e,ey,l⟩|⟨kvs,k,b,e,ey,eb,l⟩
 .subst ey;obtain⟨z,hd,vs,rel,dd⟩:=a1I I.hok e;obtain⟨w',hw,rw'⟩:=RelO.some_of (v:=v) (o:=valueAt vs k) (by rw[l];exact rel.val k);exact wpAny_getItem_of (a1s ry) dd.mapOf hw (h w' _ (I.tok _) rw')
 .subst ey;cases(show u=Value.ref b from ry);obtain⟨z,hd,xs,rel,dd⟩:=a1G I.hok e;obtain⟨w',hw,rw'⟩:=RelO.some_of (v:=v) (o:=(atKey xs k).map (·.2)) (by rw[l];exact rel.val k);obtain⟨p,hp,hp2⟩:=Option.map_eq_some_iff.mp hw;refine wpAny_getItem_heap (tupleKind_room_in1 hu) (a0s I.hok eb) dd hp ?_;rw[hp2];exact h w' _ (I.tok _) rw'
theorem b4X{Q:Value->Shared->Prop}(hu:A.units+1<cLine)(I:Inv X pins σ H s)(g:DGet H a y o)(ry:RelV y u)(h:∀s',Inv X pins σ H s'->Q (.bool o.isSome) s') :
  wpAny (model X.prog X.w) A (compareOp .In u (.ref a)) Q E s:=by
 rcases g with⟨kvs,k,e,ey,l⟩|⟨kvs,k,b,e,ey,eb,l⟩
 .subst ey;obtain⟨z,hd,vs,rel,dd⟩:=a1I I.hok e;refine wpAny_in_of (a1s ry) hd dd.mapOf ?_;rw[<-(rel.val k).isSome_eq,<-l];exact h _ (I.tok _)
 .subst ey;cases(show u=Value.ref b from ry);obtain⟨z,hd,xs,rel,dd⟩:=a1G I.hok e;refine wpAny_in_heap (tupleKind_room_in1 hu) (a0s I.hok eb) hd dd ?_;have q:=(rel.val k).isSome_eq;rw[Option.isSome_map]at q;rw[<-q,<-l];exact h _ (I.tok _)
theorem a3p{h':Heap}{t':Nat}{ob:HO}(I:Inv X pins σ H s)(mu:Mut (H a))(hs:Heap.SameBut a s.heap h')(he:∃q,h'.get? a=some q)(new:ObjOk X.prog X.w (upd H a ob) h' a ob) :
  Inv X pins σ (upd H a ob) {s with heap:=h',toks:=t'} :=
 I.write (x:=a) (e:=a) mu (.inl rfl) (λb q hb z=>(hs.2 b hb).trans z) he new
theorem a8S{P:Program}{w:World}{H':Hp}{h':Heap}{kvs:List (Key×V)}{vs:List (Key×Value)}(z:kvs.length<=sizeLine)(hd:(a==sysModules)=false)(rel:KV kvs vs)(dd:h'.DictOf (C3 P w) a vs) :
  ObjOk P w H' h' a (.dK kvs):=⟨z,hd,vs,rel,dd⟩
theorem a6H{H':Hp}{Q:Unit->Shared->Prop}(hu:A.units+1<cLine)(I:Inv X pins σ H s)(g:DPut H a y v H')(ry:RelV y u)(rv:RelV v r)(h:∀s',Inv X pins σ H' s'->Q () s') :
  wpAny (model X.prog X.w) A (setItem (.ref a) u r) Q E s:=by
 rcases g with⟨kvs,k,e,ey,l,eH⟩|⟨kvs,k,b,e,ey,eb,l,eH⟩
 .subst ey eH;obtain⟨z,hd,vs,rel,dd⟩:=b1x I.hok e;have hz:vs.length<=sizeLine:=by rw[<-rel.length];exact z
  have hl:(R0 kvs k v).length<=sizeLine:=by have:=U9 kvs k v;omega
  refine wpAny_setItem_pairs (hsz:=hz) (a1s ry) dd λh' dd' hs=>h _ ?_;have he:∃q,h'.get? a=some q:=let ⟨q,_,_,hq,_⟩:=dd';⟨q,hq⟩
  exact a3p I (by rw[e];exact True.intro) hs he (a8S hl hd (rel.put k rv) dd')
 .subst ey eH;cases(show u=Value.ref b from ry);obtain⟨z,hd,xs,rel,dd⟩:=b4O I.hok e;have hz:xs.length<=sizeLine:=by rw[<-Paired.length rel];exact z
  have hl:(R0 kvs k v).length<=sizeLine:=by have:=U9 kvs k v;omega
  refine wpAny_setItem_heap (hsz:=hz) (tupleKind_room_in1 hu) (a0s I.hok eb) dd λh' dd' hs=>h _ ?_;obtain⟨q,es,ep,hq,h2,h3,h4,_,h5⟩:=dd';refine a3p I (by rw[e];exact True.intro) hs ⟨q,hq⟩ ⟨hl,hd,_,(rel.put k eb rv).keeps λc ys ec=>?_,q,es,ep,hq,h2,h3,h4,h5⟩;rw[A6 (a0B ec e (λz=>nomatch z))];exact ec
end
section
variable {X:Cx}{pins:List (Addr×Obj)}{σ:St}{H:Hp}{s:Shared}{a:Addr}{kvs:List (Key×V)}{k:Key}{u:Value}{A:Around}{E:Value->Shared->Prop}
end
def b3H(i:Expr):Prop:=∀ov iv,subscripted i false ov iv=operate [ov,iv] (getItem ov iv)
theorem a9i{prog:Program}{w:World}{A:Around}{E:Value->Shared->Prop}{s:Shared}{env:Env}{value slice:Expr}{pos:Pos}{T id:String}{Q:Value->Shared->Prop}
  (hl:typeLookup (.type T) "__getitem__"=pure (some (.builtin id))) (hs:b3H slice)
  (h:wpAny (model prog w) A (eval value env) (λo s₁=>wpAny (model prog w) A (eval slice env) (λi s₂=>s₂.TypeIs o T/\wpAny (model prog w) A (getItem o i) Q E s₂) E s₁) E s) :
  wpAny (model prog w) A (eval (.Subscript value slice pos) env) Q E s:=by
 refine Subscript_ (wpAny_mono h (λo s₁ h₁=>wpAny_mono h₁ (λi s₂ h₂=>?_) λ_ _ x=>x) λ_ _ x=>x);obtain⟨hT,h₂⟩:=h₂;unfold subscriptTail;refine wpAny_bind ?_;rw[getitemInPython_of_ne hT.not_modules];refine wpAny_bind (wpAny_specialOf hT hl ?_);have fin:wpAny (model prog w) A (subscripted slice false o i) (λr s₃=>wpAny (model prog w) A (letTemporaryGo value o r>>=λ_=>pure r) Q E s₃) E s₂:=by
  rw[hs o i];exact wpAny_operating (wpAny_mono h₂ (λr s₃ h₃=>wpAny_bind (wpAny_letTemporaryGo (wpAny_pure h₃))) λ_ _ x=>x)
 first
  |exact wpAny_pure (wpAny_bind fin)
  |exact wpAny_bind (wpAny_pure (wpAny_bind fin))
  |exact wpAny_bind fin
theorem a4o{X:Cx}{pins:List (Addr×Obj)}{σ:St}{H:Hp}{s:Shared}{a:Addr}{y:V}{o:Option V}(I:Inv X pins σ H s)(g:DGet H a y o):s.TypeIs (.ref a) "dict":=by
 rcases g with⟨kvs,k,e,_,_⟩|⟨kvs,k,b,e,_,_,_⟩
 .obtain⟨_,_,vs,_,dd⟩:=a1I I.hok e;exact dd.typeIs
 .obtain⟨_,_,xs,_,dd⟩:=a1G I.hok e;exact dd.typeIs
def b0N(td ty:TE):TE:=λσ H Q=>td σ H λx H1=>ty σ H1 λy H2=>∃a v,x=.ref a/\DGet H2 a y (some v)/\Q v H2
def b1K(ty td:TE):TE:=λσ H Q=>ty σ H λy H1=>td σ H1 λx H2=>∃a o,x=.ref a/\DGet H2 a y o/\Q (.bl o.isSome) H2
def b1f(td ty tv:TE):TS:=λD σ H=>tv σ H λv H1=>td σ H1 λx H2=>ty σ H2 λy H3=>∃a H4,x=.ref a/\DPut H3 a y v H4/\D.nx σ H4
section
variable {X:Cx}{o i e value:Expr}{pos pos' tpos:Pos}{td ty tv:TE}
theorem a9S(hu:X.A.units+1<cLine)(ho:PE X o td)(hi:PE X i ty)(hs:b3H i):PE X (.Subscript o i pos) (b0N td ty):=by
 intro pins s σ H Q I h;refine a9i PySem.F.slot_dict_getitem.lookup hs (thn (ho pins s σ H _ I h) λu s1 ⟨x,H1,I1,rx,q1⟩=>thn (hi pins s1 σ H1 _ I1 q1) λiv s2 ⟨y,H2,I2,ry,a,v,ex,g,q2⟩=>?_);subst ex;obtain rfl:u=Value.ref a:=rx;exact⟨a4o I2 g,a6I hu I2 g ry λw' s3 I3 rw'=>⟨v,H2,I3,rw',q2⟩⟩
theorem a8b(hu:X.A.units+1<cLine)(hi:PE X i ty)(ho:PE X o td):PC X .In i o (b1K ty td):=by
 intro pins s σ H Q I h;refine thn (hi pins s σ H _ I h) λiv s1 ⟨y,H1,I1,ry,q1⟩=>thn (ho pins s1 σ H1 _ I1 q1) λu s2 ⟨x,H2,I2,rx,a,ov,ex,g,q2⟩=>?_;subst ex;obtain rfl:u=Value.ref a:=rx;exact b4X hu I2 g ry λs3 I3=>⟨.bl ov.isSome,H2,I3,rfl,q2⟩
theorem a9v(hu:X.A.units+1<cLine)(ho:PE X o td)(hi:PE X i ty)(hv:PE X value tv)(hs:swapsWith value (some (.Subscript o i pos')) pos.line X.env=pure false) :
  PS X (.Assign [.Subscript o i pos'] value pos) (b1f td ty tv):=by
 intro pins s σ H D I h;refine wpAny_Assign_Subscript (thn (hv pins s σ H _ I h) λr s1 ⟨v,H1,I1,rv,q1⟩=>thn (ho pins s1 σ H1 _ I1 q1) λu s2 ⟨x,H2,I2,rx,q2⟩=>thn (hi pins s2 σ H2 _ I2 q2) λiv s3 ⟨y,H3,I3,ry,a,H4,ex,g,q3⟩=>?_) hs;subst ex;obtain rfl:u=Value.ref a:=rx;exact a6H hu I3 g ry rv λs4 I4=>⟨σ,H4,I4,q3⟩
end
theorem a4n{P:Program}{w:World}{H:Hp}(h:Heap)(hb:sysModules<h.objs.size):ObjOk P w H (h.push {cls:=.type "dict",data:=.dict #[]}) h.objs.size (.dK []) :=
 ⟨Nat.zero_le _,beq_eq_false_iff_ne.mpr (Ne.symm (Nat.ne_of_lt hb)),[],.nil,Heap.DictOf.new h⟩
def a7h:TE:=λ_ H Q=>∀p,H p=none->Q (.ref p) (upd H p (.dK []))
section
variable {X:Cx}{pos:Pos}
theorem a7W:PE X (.Dict [] [] pos) a7h:=λpins s σ H Q I h =>
 wpAny_Dict_empty ⟨.ref s.heap.objs.size,_,I.laid (a:=s.heap.objs.size) (o:=.dK []) (t':=s.toks) (λ_ _ q=>Heap.get?_push_of_some _ q) (Nat.le_refl _) (a4n s.heap I.big),rfl,h _ (I.hok.fresh (Nat.le_refl _))⟩
end
def a4B:List (TE×TE)->St->Hp->(List (V×V)->Hp->Prop)->Prop
 |[],_,H,Q=>Q [] H
 |(tk,tv)::r,σ,H,Q=>tk σ H λx H1=>tv σ H1 λy H2=>a4B r σ H2 λps H3=>Q ((x,y)::ps) H3
abbrev VV:List (V×V)->List (Value×Value)->Prop:=Paired λp q=>RelV p.1 q.1/\RelV p.2 q.2
def PPs(X:Cx)(pos:Pos)(keys:List (Option Expr))(values:List Expr)(trs:List (TE×TE)):Prop :=
 ∀(pins:List (Addr×Obj)) (s:Shared) (σ:St) (H:Hp) (Q:List (V×V)->Hp->Prop),Inv X pins σ H s->a4B trs σ H Q ->
  wpAny (model X.prog X.w) X.A (evalPairs (pairTrees keys values X.env pos)) (λvs s'=>∃ps H',Inv X pins σ H' s'/\VV ps vs/\Q ps H') X.xe s
theorem a9z{X:Cx}{pos:Pos}:PPs X pos [] [] []:=λpins s σ H Q I h=>pairTrees_nil_walk ⟨[],H,I,.nil,h⟩
theorem a7J{X:Cx}{pos:Pos}{k v:Expr}{ks:List (Option Expr)}{vs:List Expr}{tk tv:TE}{trs:List (TE×TE)}(hk:PE X k tk)(hv:PE X v tv)(hr:PPs X pos ks vs trs) :
  PPs X pos (some k::ks) (v::vs) ((tk,tv)::trs):=λpins s σ H Q I h =>
 pairTrees_cons_walk (thn (hk pins s σ H _ I h) λu s1 ⟨x,H1,I1,rx,q1⟩=>thn (hv pins s1 σ H1 _ I1 q1) λw2 s2 ⟨y,H2,I2,ry,q2⟩ =>
  thn (hr pins s2 σ H2 _ I2 q2) λws s3 ⟨ps,H3,I3,rel,q3⟩=>⟨(x,y)::ps,H3,I3,.cons ⟨rx,ry⟩ rel,q3⟩)
noncomputable def a0p(kvs more:List (Key×V)):List (Key×V):=more.foldl (λacc kv=>R0 acc kv.1 kv.2) kvs
theorem KV.merge:∀{more:List (Key×V)}{rs:List (Key×Value)}{kvs:List (Key×V)}{vs:List (Key×Value)},KV more rs->KV kvs vs->KV (a0p kvs more) (merged vs rs):=by
 intro more rs kvs vs r;unfold KV at r;induction r generalizing kvs vs with
 |nil=>intro q;exact q
 |@cons p q ps qs h t ih =>
  intro r0;have e:KV (R0 kvs p.1 p.2) (stored vs q.1 q.2):=by
   have:=r0.put p.1 h.2;rw[<-h.1];exact this
  exact ih e
theorem X0:∀(more kvs:List (Key×V)),(a0p kvs more).length<=kvs.length+more.length
 |[],kvs=>by show kvs.length<=kvs.length+0;omega
 |p::r,kvs=>by
  have h1:=X0 r (R0 kvs p.1 p.2);have h2:=U9 kvs p.1 p.2;show(a0p (R0 kvs p.1 p.2) r).length<=_;rw[List.length_cons];omega
theorem a1M{P:Program}{w:World}:∀{kvs:List (Key×V)}{ws:List (Value×Value)},VV (kvs.map λkv=>(kV kv.1,kv.2)) ws->∃rs,Carries (C3 P w) ws rs/\KV kvs rs
 |[],_,r=>by rw[List.map_nil]at r;cases r;exact⟨[],True.intro,.nil⟩
 |p::kvs,_,r=>by
  rw[List.map_cons]at r;cases r with
  |@cons a b as bs h t =>
   obtain⟨rs,c,q⟩:=a1M (P:=P) (w:=w) t;obtain⟨b1,b2⟩:=b;exact⟨(p.1,b2)::rs,⟨a1s h.1,rfl,c⟩,.cons ⟨rfl,h.2⟩ q⟩
def b0M(trs:List (TE×TE)):TE:=λσ H Q=>∀p,H p=none->a4B trs σ (upd H p (.dK [])) λps H2=>H2 p=some (.dK [])/\∃kvs:List (Key×V),ps=kvs.map (λkv=>(kV kv.1,kv.2))/\kvs.length<=15/\Q (.ref p) (upd H2 p (.dK (a0p [] kvs)))
theorem a9R{X:Cx}{pos:Pos}{keys:List (Option Expr)}{values:List Expr}{trs:List (TE×TE)}(h:PPs X pos keys values trs)(hall:keys.all (·.isSome)=true)(hl:keys.length=values.length)(h0:keys≠[])
  (h15:keys.length<=15):PE X (.Dict keys values pos) (b0M trs):=by
 intro pins s σ H Q I q;have hn:=I.hok.fresh (Nat.le_refl s.heap.objs.size);have I1:=I.laid (a:=s.heap.objs.size) (o:=.dK []) (h':=s.heap.push {cls:=.type "dict",data:=.dict #[]}) (t':=s.toks) (λ_ _ q=>Heap.get?_push_of_some _ q) (Nat.le_refl _) (a4n s.heap I.big);refine wpAny_Dict_walk (knd:=C3 X.prog X.w) hall hl h0 h15 (thn (h pins _ σ _ _ I1 (q _ hn)) λws s2 ⟨ps,H2,I2,rel,e,kvs,ep,lk,q2⟩=>?_);subst ep;obtain⟨rs,c,rk⟩:=a1M (P:=X.prog) (w:=X.w) rel;obtain⟨z,hd,vs0,r0,dd⟩:=b1x I2.hok e;cases r0;refine⟨rs,c,dd,λh' dd' hs=>⟨.ref s.heap.objs.size,_,?_,rfl,q2⟩⟩;have hz:(a0p [] kvs).length<=sizeLine:=by
  have h1:=X0 kvs [];rw[List.length_nil]at h1;rw[sizeLine_eq];omega
 have he:∃q,h'.get? s.heap.objs.size=some q:=let ⟨q,_,_,hq,_⟩:=dd';⟨q,hq⟩
 exact a3p I2 (by rw[e];exact True.intro) hs he (a8S hz hd (rk.merge .nil) dd')
structure M1(X:Cx)(o:Expr)(m:Str)(apos:Pos)(e:Expr)(cpos:Pos):Prop where
 base:attributeBase o m X.env (eval o X.env)=eval o X.env
 few:((backTo cpos (starEach [e] X.env)).all (λx=>!x.1) && (backToKw cpos (keywordEach [] X.env)).all (λx=>x.1.isSome)
  && decide (([e]:List Expr).length+([]:List Keyword).length+(if ([]:List Keyword).isEmpty then 0 else 1)<30))=true
 line:(apos.endLine==cpos.line)=true
 trees:backTo cpos (starEach [e] X.env)=[(false,eval e X.env)]
structure M2(X:Cx)(o:Expr)(m:Str)(apos:Pos)(e f:Expr)(cpos:Pos):Prop where
 base:attributeBase o m X.env (eval o X.env)=eval o X.env
 few:((backTo cpos (starEach [e,f] X.env)).all (λx=>!x.1) && (backToKw cpos (keywordEach [] X.env)).all (λx=>x.1.isSome)
  && decide (([e,f]:List Expr).length+([]:List Keyword).length+(if ([]:List Keyword).isEmpty then 0 else 1)<30))=true
 line:(apos.endLine==cpos.line)=true
 trees:backTo cpos (starEach [e,f] X.env)=[(false,eval e X.env),(false,eval f X.env)]
def IsD(H:Hp)(a:Addr):Prop:=(∃kvs,Rd H a (.dK kvs))∨∃kvs,Rd H a (.dT kvs)
theorem a8G{X:Cx}{pins:List (Addr×Obj)}{σ:St}{H:Hp}{s:Shared}{a:Addr}(I:Inv X pins σ H s)(d:IsD H a) :
  s.TypeIs (.ref a) "dict"/\(∀b,Value.ref a=.ref b->∃ob,s.heap.get? b=some ob/\ob.dict=none)/\(a==sysModules)=false:=by
 rcases d with⟨kvs,e⟩|⟨kvs,e⟩
 .obtain⟨_,hd,vs,_,dd⟩:=a1I I.hok e;refine⟨dd.typeIs,λb q=>?_,hd⟩;cases q;obtain⟨ob,_,_,h1,h2,_⟩:=dd;exact⟨ob,h1,h2.2.1⟩
 .obtain⟨_,hd,xs,_,dd⟩:=a1G I.hok e;refine⟨dd.typeIs,λb q=>?_,hd⟩;cases q;obtain⟨ob,_,_,h1,h2,_⟩:=dd;exact⟨ob,h1,h2.2.1⟩
section
variable {X:Cx}{pins:List (Addr×Obj)}{σ:St}{H:Hp}{s:Shared}{a:Addr}{y d:V}{u r:Value}{o:Option V}{A:Around}{E:Value->Shared->Prop}
theorem b3v{Q:Value->Shared->Prop}(hu:A.units+1<cLine)(I:Inv X pins σ H s)(g:DGet H a y o)(ry:RelV y u)(h:∀w' s',Inv X pins σ H s'->RelV (o.getD .non) w'->Q w' s') :
  wpAny (model X.prog X.w) A (call (.builtin "dict.get") [.ref a,u]) Q E s:=by
 rcases g with⟨kvs,k,e,ey,l⟩|⟨kvs,k,b,e,ey,eb,l⟩
 .subst ey;obtain⟨z,hd,vs,rel,dd⟩:=a1I I.hok e;refine call_meetsIn PySem.F.slot_dict_get dd.typeIs PySem.F.entry_dict_get (PySem.F.args_dict_get_2 _ _) (meets_dict_get (C3 X.prog X.w) a (a1s ry) hd) ⟨_,dd.mapOf,h _ _ (I.tok _) ?_⟩;rw[l];exact(rel.val k).getD rfl
 .subst ey;cases(show u=Value.ref b from ry);obtain⟨z,hd,xs,rel,dd⟩:=a1G I.hok e;refine call_meetsIn PySem.F.slot_dict_get dd.typeIs PySem.F.entry_dict_get (PySem.F.args_dict_get_2 _ _) (meetsH_dict_get (tupleKind (C3 X.prog X.w)) a b hd) ⟨tupleKind_room_in1 hu,k,xs,a0s I.hok eb,dd,h _ _ (I.tok _) ?_⟩;rw[l];exact(rel.val k).getD rfl
theorem b3u{Q:Value->Shared->Prop}(hu:A.units+1<cLine)(I:Inv X pins σ H s)(g:DGet H a y o)(ry:RelV y u)(rd:RelV d r)(h:∀w' s',Inv X pins σ H s'->RelV (o.getD d) w'->Q w' s') :
  wpAny (model X.prog X.w) A (call (.builtin "dict.get") [.ref a,u,r]) Q E s:=by
 rcases g with⟨kvs,k,e,ey,l⟩|⟨kvs,k,b,e,ey,eb,l⟩
 .subst ey;obtain⟨z,hd,vs,rel,dd⟩:=a1I I.hok e;refine call_meetsIn PySem.F.slot_dict_get dd.typeIs PySem.F.entry_dict_get (PySem.F.args_dict_get_3 _ _ _) (meets_dict_get_default (C3 X.prog X.w) a (a1s ry) hd r) ⟨_,dd.mapOf,h _ _ (I.tok _) ?_⟩;rw[l];exact(rel.val k).getD rd
 .subst ey;cases(show u=Value.ref b from ry);obtain⟨z,hd,xs,rel,dd⟩:=a1G I.hok e;refine call_meetsIn PySem.F.slot_dict_get dd.typeIs PySem.F.entry_dict_get (PySem.F.args_dict_get_3 _ _ _) (meetsH_dict_get_default (tupleKind (C3 X.prog X.w)) a b hd r) ⟨tupleKind_room_in1 hu,k,xs,a0s I.hok eb,dd,h _ _ (I.tok _) ?_⟩;rw[l];exact(rel.val k).getD rd
end
def a7j(td ty:TE):TE:=λσ H Q=>td σ H λx H1=>∃a,x=.ref a/\IsD H1 a/\ty σ H1 λy H2=>∃o,DGet H2 a y o/\Q (o.getD .non) H2
def a7i(td ty tx:TE):TE:=λσ H Q=>td σ H λx H1=>∃a,x=.ref a/\IsD H1 a/\ty σ H1 λy H2=>tx σ H2 λz H3=>∃o,DGet H3 a y o/\Q (o.getD z) H3
section
variable {X:Cx}{o e f:Expr}{apos cpos:Pos}{td ty tx:TE}
theorem a7Y(hu:X.A.units+1<cLine)(ho:PE X o td)(he:PE X e ty)(m:M1 X o "get" apos e cpos):PE X (.Call (.Attribute o "get" apos) [e] [] cpos) (a7j td ty):=by
 intro pins s σ H Q I h;refine wpAny_Call_method m.base m.few m.line PySem.F.plainAttrs_dict PySem.F.slot_dict_get PySem.F.type_dict_get (thn (ho pins s σ H _ I h) λu s1 ⟨x,H1,I1,rx,a,ex,d,q1⟩=>?_);subst ex;obtain rfl:u=Value.ref a:=rx;obtain⟨t1,t2,_⟩:=a8G I1 d;refine⟨t1,t2,?_⟩;rw[m.trees];refine Calls.callWith_builtin rfl (Calls.evalArgs_plain (Calls.spliced_cons (thn (he pins s1 σ H1 _ I1 q1) λiv s2 ⟨y,H2,I2,ry,ov,g,q2⟩=>Calls.spliced_nil ?_)));exact b3v hu I2 g ry λw' s3 I3 rw'=>⟨_,H2,I3,rw',q2⟩
theorem a7X(hu:X.A.units+1<cLine)(ho:PE X o td)(he:PE X e ty)(hf:PE X f tx)(m:M2 X o "get" apos e f cpos):PE X (.Call (.Attribute o "get" apos) [e,f] [] cpos) (a7i td ty tx):=by
 intro pins s σ H Q I h;refine wpAny_Call_method m.base m.few m.line PySem.F.plainAttrs_dict PySem.F.slot_dict_get PySem.F.type_dict_get (thn (ho pins s σ H _ I h) λu s1 ⟨x,H1,I1,rx,a,ex,d,q1⟩=>?_);subst ex;obtain rfl:u=Value.ref a:=rx;obtain⟨t1,t2,_⟩:=a8G I1 d;refine⟨t1,t2,?_⟩;rw[m.trees];refine Calls.callWith_builtin rfl (Calls.evalArgs_plain (Calls.spliced_cons (thn (he pins s1 σ H1 _ I1 q1) λiv s2 ⟨y,H2,I2,ry,q2⟩ =>
  Calls.spliced_cons (thn (hf pins s2 σ H2 _ I2 q2) λfv s3 ⟨z,H3,I3,rz,ov,g,q3⟩=>Calls.spliced_nil ?_))))
 exact b3u hu I3 g ry rz λw' s4 I4 rw'=>⟨_,H3,I4,rw',q3⟩
end
section
variable {X:Cx}{pins:List (Addr×Obj)}{σ:St}{H:Hp}{s:Shared}{a:Addr}{kvs:List (Key×V)}{A:Around}{E:Value->Shared->Prop}
end
section
variable {X:Cx}{pins:List (Addr×Obj)}{σ:St}{H:Hp}{s:Shared}{a:Addr}{y:V}{u:Value}{A:Around}{E:Value->Shared->Prop}
end
end L2
namespace Att
open PySem PySem.W PySem.Calls PyProof.Rows
section
variable {prog:Program}{w:World}{A:Around}{E:Value->Shared->Prop}{s:Shared}{K:Frag}
end
end Att
namespace L2
open PySem PySem.Spec PyProof.Rows
end L2
namespace L2
open PySem PySem.Spec PyProof.Rows
section
variable {P:Program}{w:World}{K:PySem.W.Frag}{mg:Str->Option Value}{base:Heap}
end
section
variable {X:Cx}
end
section
variable {κ:Type} [DecidableEq κ]
end
end L2
namespace L2
open PySem PySem.Spec PyProof.Rows PySem.W
section
variable {O:KeyOrd}{key:Nat->O.α}{N:Nat}{p:Array Nat}
noncomputable def kk(key:Nat->O.α)(p:Array Nat)(i:Nat):O.α:=key (p[i]?.getD 0)
end
section
variable {prog:Program}{w:World}{A:Around}{E:Value->Shared->Prop}{s:Shared}
end
section
variable {prog:Program}{w:World}{A:Around}{E:Value->Shared->Prop}{s:Shared}
end
section
variable {X:Cx}
end
section
variable {prog:Program}{w:World}{A:Around}{E:Value->Shared->Prop}{s:Shared}
variable {κ:SortKind}{D:Keyed->Prop}{lt:Keyed->Keyed->Bool}
end
section
variable {O:KeyOrd}{kf:Keyed->O.α}{la lb o:List Keyed}{ia ib:Nat}
def leK(kf:Keyed->O.α)(x y:Keyed):Prop:=O.kle (kf x) (kf y)
structure MS(kf:Keyed->O.α)(la lb o:List Keyed)(ia ib:Nat):Prop where
 perm:o.Perm (la.take ia++lb.take ib)
 sorted:o.Pairwise (leK kf)
 ra:∀x∈o,∀y∈la.drop ia,leK kf x y
 rb:∀x∈o,∀y∈lb.drop ib,leK kf x y
def b3I(kf:Keyed->O.α)(la lb o:List Keyed):Prop:=o.Perm (la++lb)/\o.Pairwise (leK kf)
end
abbrev T1:Type:=Option (Array Keyed)×Array Keyed×Nat×Nat×Nat×Nat
abbrev T2:Type:=Option (Array Keyed)×Array Keyed×Nat×Nat×Nat×Nat×Nat
section
variable {prog:Program}{w:World}{A:Around}{E:Value->Shared->Prop}{s:Shared}{κ:SortKind}{D:Keyed->Prop}{O:KeyOrd}{kf:Keyed->O.α}{a b out:Array Keyed}{ia ib:Nat}{st:SortSt}
def b0I(st st':SortSt):Prop:=kindOf st'=kindOf st/\arrOf st'=arrOf st/\pendingOf st'=pendingOf st/\failedOf st'=failedOf st
def MI(kf:Keyed->O.α)(a b out:Array Keyed)(ia ib:Nat):Prop:=MS kf a.toList b.toList out.toList ia ib/\ia+1<a.size/\ib<b.size
def a0Z(kf:Keyed->O.α)(a b r:Array Keyed):Prop:=b3I kf a.toList b.toList r.toList
def P2(kf:Keyed->O.α)(st:SortSt)(a b:Array Keyed)(c0:Nat)(c:T2)(st':SortSt):Prop:=b0I st st'/\((∃r,c.1=some r/\a0Z kf a b r)∨(c.1=none/\MI kf a b c.2.1 c.2.2.1 c.2.2.2.1/\c0<=c.2.2.1+c.2.2.2.1))
variable {c0 mg k k1 bc ac:Nat}{st':SortSt}
def P1(kf:Keyed->O.α)(st:SortSt)(a b:Array Keyed)(c0:Nat)(c:T1)(st':SortSt):Prop:=b0I st st'/\((∃r,c.1=some r/\a0Z kf a b r)∨(c.1=none/\MI kf a b c.2.1 c.2.2.1 c.2.2.2.1/\c0<=c.2.2.1+c.2.2.2.1))
end
section
variable {O:KeyOrd}{kf:Keyed->O.α}{la lb o:List Keyed}{na nb:Nat}
structure MH(kf:Keyed->O.α)(la lb o:List Keyed)(na nb:Nat):Prop where
 perm:o.Perm (la.drop na++lb.drop nb)
 sorted:o.Pairwise (leK kf)
 ra:∀x∈la.take na,∀y∈o,leK kf x y
 rb:∀x∈lb.take nb,∀y∈o,leK kf x y
end
abbrev U1:Type:=Option (Array Keyed)×Nat×Nat×Array Keyed×Nat×Nat
abbrev U2:Type:=Option (Array Keyed)×Nat×Nat×Array Keyed×Nat×Nat×Nat
section
variable {prog:Program}{w:World}{A:Around}{E:Value->Shared->Prop}{s:Shared}{κ:SortKind}{D:Keyed->Prop}{O:KeyOrd}{kf:Keyed->O.α}{a b out:Array Keyed}{na nb:Nat}{st:SortSt}
def MJ(kf:Keyed->O.α)(a b out:Array Keyed)(na nb:Nat):Prop:=MH kf a.toList b.toList out.toList.reverse na nb/\1<=na/\2<=nb/\na<=a.size/\nb<=b.size
def P4(kf:Keyed->O.α)(st:SortSt)(a b:Array Keyed)(c0:Nat)(c:U2)(st':SortSt):Prop:=b0I st st'/\((∃r,c.1=some r/\a0Z kf a b r)∨(c.1=none/\MJ kf a b c.2.2.2.1 c.2.1 c.2.2.1/\c.2.1+c.2.2.1+c0<=a.size+b.size))
variable {c0 mg k k1 bc ac:Nat}{st':SortSt}
def P3(kf:Keyed->O.α)(st:SortSt)(a b:Array Keyed)(c0:Nat)(c:U1)(st':SortSt):Prop:=b0I st st'/\((∃r,c.1=some r/\a0Z kf a b r)∨(c.1=none/\MJ kf a b c.2.2.2.1 c.2.1 c.2.2.1/\c.2.1+c.2.2.1+c0<=a.size+b.size))
end
section
variable {prog:Program}{w:World}{A:Around}{E:Value->Shared->Prop}{s:Shared}{κ:SortKind}{D:Keyed->Prop}{O:KeyOrd}{kf:Keyed->O.α}{st:SortSt}
variable {arr:Array Keyed}{P LA LB R:List Keyed}
end
section
variable {prog:Program}{w:World}{A:Around}{E:Value->Shared->Prop}{s:Shared}{κ:SortKind}{D:Keyed->Prop}{O:KeyOrd}{kf:Keyed->O.α}{st:SortSt}
section
variable {arr:Array Keyed}{lo k l i:Nat}(hs:lo+k<arr.size) (hd:l<=k)
include hs hd
end
end
section
variable {prog:Program}{w:World}{A:Around}{E:Value->Shared->Prop}{s:Shared}{κ:SortKind}{D:Keyed->Prop}{O:KeyOrd}{kf:Keyed->O.α}{st:SortSt}
end
section
variable {prog:Program}{w:World}{A:Around}{E:Value->Shared->Prop}{s:Shared}{κ:SortKind}{D:Keyed->Prop}{O:KeyOrd}{kf:Keyed->O.α}{st:SortSt}{a0:Array Keyed}
end
section
variable {prog:Program}{w:World}{A:Around}{E:Value->Shared->Prop}{s:Shared}{κ:SortKind}{D:Keyed->Prop}{O:KeyOrd}{kf:Keyed->O.α}{st:SortSt}{a0:Array Keyed}{runs:List (List Keyed)}{rest:List Keyed}
end
section
variable {prog:Program}{w:World}{A:Around}{E:Value->Shared->Prop}{s:Shared}{κ:SortKind}{D:Keyed->Prop}{O:KeyOrd}{kf:Keyed->O.α}{st:SortSt}{a0:Array Keyed}{runs:List (List Keyed)}{rest:List Keyed}
end
section
variable {prog:Program}{w:World}{A:Around}{E:Value->Shared->Prop}{s:Shared}
end
section
variable {X:Cx}
end
section
variable {prog:Program}{w:World}{A:Around}{E:Value->Shared->Prop}{s:Shared}{it d:Addr}{i ep:Nat}{es:Array DictEntry}
end
section
variable {prog:Program}{w:World}{A:Around}{E:Value->Shared->Prop}{s:Shared}
end
section
variable {X:Cx}
end
end L2
namespace L2
open PySem PySem.Spec PyProof.Rows
variable {X:Cx}
end L2
namespace L2
open PySem PySem.Spec PyProof.Rows PySem.W
section
variable {prog:Program}{w:World}{A:Around}{E:Value->Shared->Prop}{s:Shared}{d:Addr}{ep:Nat}{es:Array DictEntry}
end
section
variable {X:Cx}
variable {a b c e o i value:Expr}{es rest:List Expr}{ta tb tc te to td ty tv:TE}{t:TA}{pos p apos cpos p2 pos' tpos:Pos}
theorem b4V(hu:X.A.units+60<cLine)(hi:JE X i ty)(ho:JE X o td)(hm:behindInMarks .In o=false):JE X (.Compare i [.In] [o] pos) (b1K ty td):=⟨b2t (a8b (by omega) hi.h ho.h) hm⟩
theorem b2Y(hu:X.A.units+60<cLine)(hi:JE X i ty)(ho:JE X o td)(hm:behindInMarks .In o=false):JT X (.Compare i [.In] [o] pos) (tB (b1K ty td)):=⟨b1Y (a8b (by omega) hi.h ho.h) hm⟩
theorem Z7(hu:X.A.units+60<cLine)(ho:JE X o td)(hi:JE X i ty)(hv:JE X value tv)(hs:swapsWith value (some (.Subscript o i pos')) pos.line X.env=pure false:=by rfl):JS X (.Assign [.Subscript o i pos'] value pos) (b1f td ty tv):=⟨a9v (by omega) ho.h hi.h hv.h hs⟩
theorem M3(K:PySem.W.Frag){f:Str}(he:JE X e ta)(hK:X.K=K:=by rfl)(hb:attributeBase e f X.env (eval e X.env)=eval e X.env:=by rfl):JE X (.Attribute e f pos) (b3T K ta f):=by
 subst hK;exact⟨b2s he.h hb⟩
theorem a0t(K:PySem.W.Frag){f:Str}(ha:JE X o ta)(hv:JE X value tv)(hK:X.K=K:=by rfl)(hs:swapsWith value (some (.Attribute o f pos')) pos.line X.env=pure false:=by rfl):JS X (.Assign [.Attribute o f pos'] value pos) (b4j K ta tv f):=by
 subst hK;exact⟨b2c ha.h hv.h hs⟩
end
structure MethOk(P:Program)(w:World)(K:PySem.W.Frag)(mg:Str->Option Value)(base:Heap)(C:Addr)(m:Str)(k:Nat)(ps:List Str)(sp:Sp):Prop where
 ex:∃f fd,Meth K C m f/\Binds K fd ps []/\FnOk P w K mg base CX0 k f fd ps sp
structure MethAt(K:PySem.W.Frag)(C:Addr)(m qual:Str)(st:Stmt)(ps:List Str):Prop where
 ex:∃f fd,Meth K C m f/\Fun K m qual st f fd/\Binds K fd ps []
structure MakeOk(P:Program)(w:World)(K:PySem.W.Frag)(mg:Str->Option Value)(base:Heap)(x:Str)(C:Addr)(k:Nat)(ps:List Str)(sp:Sp):Prop where
 ex:∃f fd,mg x=some (.ref C)/\Mk K C f/\Binds K fd ps []/\FnOk P w K mg base CX0 k f fd ps sp
section
variable {P:Program}{w:World}{K:PySem.W.Frag}{mg:Str->Option Value}{base:Heap}{C:Addr}{m qual:Str}{st:Stmt}{N ps:List Str}{k:Nat}{sp:Sp}
theorem MethAt.fnJ(F:MethAt K C m qual st ps)(S:FnScope N ps (A3 st))(len:∀vs H Q E,sp vs H Q E->vs.length=ps.length)
  (hbody:∀(cdv:Value) (f:Addr) (A:Around) (outer:List Env) (s:Shared) (H:Hp) (vs:List V) (Q:VK) (E:XK),Room k (A.deeper (envOfC qual (A3 st) s.heap.objs.size f cdv))->sp vs H Q E ->
   ∃t,JB (a2c CX0 P w K mg base N qual (A3 st) f cdv A outer s H E).nox (G7 st) t/\t {nx:=λ_ H'=>Q .non H',rt:=Q} (start N vs) H):MethOk P w K mg base C m (k+1) ps sp:=by
 obtain⟨f,fd,h1,h2,h3⟩:=F.ex;exact⟨f,fd,h1,h3,h2.okJ S len λcdv=>hbody cdv f⟩
theorem MethOk.make{x:Str}(O:MethOk P w K mg base C "__init__" k ps sp)(hx:mg x=some (.ref C))(hm:PySem.W.makesIn K C=true)(hk:PySem.W.keepIn K (.ref C)=true):MakeOk P w K mg base x C k ps sp:=by
 obtain⟨f,fd,h1,h2,h3⟩:=O.ex;exact⟨f,fd,hx,⟨hm,h1.at_,h1.fn,hk⟩,h2,h3⟩
end
section
variable {X:Cx}{C:Addr}{m x:Str}{k:Nat}{ps:List Str}{sp:Sp}{o e:Expr}{es:List Expr}{ta:TE}{t:TA}{pos apos p:Pos}
theorem a4R{pl:Sem Bool}(O:MethOk X.prog X.w X.K X.mg X.base C m k ps sp)(c:Cls X.K C)(hr:Room k X.A)(he:JE X o ta)(ha:JA X (e::es) t)
  (hst:starEach (e::es) X.env=(false,eval e X.env)::starEach es X.env:=by rfl) (hpl:(backTo pos (starEach es X.env)).any (·.1)=false:=by rfl)
  (ht:eval (.Call (.Attribute o m apos) (e::es) [] pos) X.env=(eval o X.env>>=λov=>standAt apos.atName>>=λ_=>holding [ov] (getMethod ov m pl)>>=λp=>match p with | (f,first)=>callWith pos f first (backTo pos (starEach (e::es) X.env)) (backToKw pos (keywordEach [] X.env))):=by rfl) :
  JE X (.Call (.Attribute o m apos) (e::es) [] pos) (a5i C m sp [] E0 ta t):=by
 obtain⟨f,fd,h1,h2,h3⟩:=O.ex;exact⟨a9P (pl:=pl) he.h c h1 h3 hr h2 .nil a5r ha.h hst hpl ht⟩
theorem b0q{pl:Sem Bool}(O:MethOk X.prog X.w X.K X.mg X.base C m k ps sp)(c:Cls X.K C)(hr:Room k X.A)(he:JE X o ta)
  (ht:eval (.Call (.Attribute o m apos) [] [] pos) X.env=(eval o X.env>>=λov=>standAt apos.atName>>=λ_=>holding [ov] (getMethod ov m pl)>>=λp=>match p with | (f,first)=>callWith pos f first (backTo pos (starEach [] X.env)) (backToKw pos (keywordEach [] X.env))):=by rfl) :
  JE X (.Call (.Attribute o m apos) [] [] pos) (a5i C m sp [] E0 ta a0l):=by
 obtain⟨f,fd,h1,h2,h3⟩:=O.ex;exact⟨a7S (pl:=pl) he.h c h1 h3 hr h2 .nil a5r ht⟩
theorem b0r(O:MakeOk X.prog X.w X.K X.mg X.base x C k ps sp)(hr:Room (k+1) X.A)(hg:Gl X x)(hdb:(x==("__debug__" : Str))=false:=by decide) :
  JE X (.Call (.Name x p) [] [] pos) (b0L C sp [] E0 a0l):=by
 obtain⟨f,fd,h0,h1,h2,h3⟩:=O.ex;exact⟨a7T h1 h3 hr hg h0 h2 .nil a5r hdb⟩
end
end L2
namespace L2
open PySem PySem.Spec PyProof.Rows
section
variable {X:Cx}{k:Nat}{ps:List Str}{sp:Sp}{x y:Str}{p pos cpos pos' ip sp':Pos}{e:Expr}{es:List Expr}{t:TA}{i:Nat}{z:Int}{jj:Nat}
end
end L2
section
open PySem PyProof.Rows
end
namespace L2
open PySem PySem.Spec PyProof.Rows
section
variable {X:Cx}
variable {o e:Expr}{es:List Expr}{to:TE}{t:TA}{pos apos cpos:Pos}
end
end L2
namespace L2
theorem b4T{α:Type}{us:List α}(h:us.length=0):us=[]:=List.length_eq_zero_iff.mp h
theorem a0K{α:Type}{us:List α}(h:us.length=1):∃a,us=[a]:=by
 cases us with
 |nil=>cases h
 |cons a us=>exact⟨a,by rw[b4T (us:=us) (Nat.succ.inj h)]⟩
theorem V0{α:Type}{us:List α}(h:us.length=2):∃a b,us=[a,b]:=by
 cases us with
 |nil=>cases h
 |cons a us=>obtain⟨b,e⟩:=a0K (us:=us) (Nat.succ.inj h);exact⟨a,b,by rw[e]⟩
theorem a6o{α:Type}{us:List α}(h:us.length=3):∃a b c,us=[a,b,c]:=by
 cases us with
 |nil=>cases h
 |cons a us=>obtain⟨b,c,e⟩:=V0 (us:=us) (Nat.succ.inj h);exact⟨a,b,c,by rw[e]⟩
theorem b4E{α:Type}{us:List α}(h:us.length=4):∃a b c d,us=[a,b,c,d]:=by
 cases us with
 |nil=>cases h
 |cons a us=>obtain⟨b,c,d,e⟩:=a6o (us:=us) (Nat.succ.inj h);exact⟨a,b,c,d,by rw[e]⟩
section
open PySem PySem.Spec PyProof.Rows PySem.W
abbrev FnL(K:PySem.W.Frag)(f:Addr)(nm qn:Str)(st:Stmt)(oc:Value)(od:Option Addr)(sl:Array (Option Value))(kV dc pm:Value)(an:Option Addr)(cd ct:Value):Prop:=K.lookup f=some ⟨oc,od,.func (PySem.W.fnOf nm qn (Q5 st) (G7 st) (A3 st) .none kV dc pm an cd ct),sl⟩
variable {K:PySem.W.Frag}{h:Heap}{mg:Str->Option Value}{x qn:Str}{st:Stmt}{f:Addr}{od an:Option Addr}{sl:Array (Option Value)}{oc kV dc pm cd ct:Value}{C:Addr}{m:Str}
theorem D7(X:K.In h)(G:h.Ns mainGlobals mg)(a:nsIn K mainGlobals x=some (some (.ref f)))(l:FnL K f x x st oc od sl kV dc pm an cd ct)(c:codeIn K cd x=true)(k:keepIn K (.ref f)=true){ps:List Str}
  (hb:∀(kV doc pm:Value) (an:Option Addr) (cdv ct:Value) (us:List Value),us.length=ps.length->bindArgs (fnOf x x (Q5 st) (G7 st) (A3 st) .none kV doc pm an cdv ct) ⟨us,[]⟩=pure (ps.zip us)):FunAt K mg x st ps:=⟨f,_,mg_of X G a,a1C (st:=st) l c k,(a1C (st:=st) l c k).binds hb⟩
theorem a3V(a:findIn K (.ref C) m=some (some (.ref f)))(i:isFn K (.ref f)=true)(l:FnL K f m qn st oc od sl kV dc pm an cd ct)(c:codeIn K cd qn=true)(k:keepIn K (.ref f)=true){ps:List Str}
  (hb:∀(kV doc pm:Value) (an:Option Addr) (cdv ct:Value) (us:List Value),us.length=ps.length->bindArgs (fnOf m qn (Q5 st) (G7 st) (A3 st) .none kV doc pm an cdv ct) ⟨us,[]⟩=pure (ps.zip us)):MethAt K C m qn st ps:=⟨f,_,⟨a,i,k⟩,a1C (st:=st) l c k,(a1C (st:=st) l c k).binds hb⟩
end
section
open PySem PySem.Spec PyProof.Rows PySem.W
variable {K:PySem.W.Frag}{h:Heap}{mg:Str->Option Value}{x nm qn:Str}{C N:Addr}{bs bm sub bmB above:List Value}{hd ab:Bool}{sn:List Str}{col:Option Bool}{dd:Option Addr}{k0 k1 k2 k3 k5:Option Value}{newId:String}
end
end L2
namespace L2
open PySem PySem.Spec PyProof.Rows
section
variable {prog:Program}{w:World}{A:Around}{E:Value->Shared->Prop}{s:Shared}
end
section
variable {X:Cx}
variable {e:Expr}{es:List Expr}{t:TA}{p pos:Pos}
end
end L2
namespace L2
open PySem PySem.Spec PyProof.Rows PySem.W
section
variable {X:Cx}{tg:Expr}
end
section
variable {X:Cx}
end
section
variable {X:Cx}{o e:Expr}{es:List Expr}{to:TE}{t:TA}{apos cpos:Pos}
end
section
variable {X:Cx}{k:Nat}{ps:List Str}{sp:Sp}{x:Str}{p pos cpos:Pos}{e:Expr}{es:List Expr}{t:TA}
end
end L2
namespace L2
open PySem PySem.Spec PyProof.Rows
section
variable {X:Cx}
variable {e:Expr}{es:List Expr}{t:TA}{p pos:Pos}
end
end L2
namespace L2
open PySem PySem.Spec PyProof.Rows PySem.W
section
variable {prog:Program}{w:World}{κ:Type} [DecidableEq κ] {knd:HeapKind prog w κ}{A:Around}{E:Value->Shared->Prop}{s:Shared}
end
section
variable {prog:Program}{w:World}{κ:Type} [DecidableEq κ] (knd:HeapKind prog w κ)
end
section
variable {X:Cx}{pins:List (Addr×Obj)}{σ:St}{H:Hp}{s:Shared}{a b:Addr}{z:V}{r:Value}{kvs:List (List Key×V)}{k:List Key}{A:Around}{E:Value->Shared->Prop}
end
section
variable {X:Cx}{o e f:Expr}{apos cpos:Pos}{td ty tx:TE}
end
section
variable {X:Cx}
variable {e:Expr}{es:List Expr}{t:TA}{p pos:Pos}
end
end L2
namespace L2
namespace Tab
open PySem
def gS:Nat->Nat
 |0=>0
 |n+1=>5*gS n+1
abbrev Pr:=SetTable.Probe
noncomputable def adv(mask:Nat)(p:Pr):Pr :=
 if p.more > 0 then {p with j:=p.j+1,more:=p.more-1} else
 {p with j:=(SetTable.leap mask p.i p.perturb).1,more:=SetTable.runEnd mask (SetTable.leap mask p.i p.perturb).1-(SetTable.leap mask p.i p.perturb).1,i:=(SetTable.leap mask p.i p.perturb).1,perturb:=(SetTable.leap mask p.i p.perturb).2}
noncomputable def b3J(mask:Nat)(p:Pr):Nat->Pr
 |0=>p
 |n+1=>adv mask (b3J mask p n)
noncomputable def b4S(mask i pt:Nat):Pr:={j:=i,more:=SetTable.runEnd mask i-i,i,perturb:=pt,dummy:=none}
noncomputable def st0(mask:Nat)(h:Int):Pr:=b4S mask (SetTable.bits h % (mask+1)) (SetTable.bits h)
noncomputable def pos(mask:Nat)(h:Int)(n:Nat):Nat:=(b3J mask (st0 mask h) n).j
theorem nodup_le{α:Type}[DecidableEq α]:∀(a b:List α),a.Nodup->(∀x∈a,x∈b)->a.length<=b.length
 |[],b,_,_=>Nat.zero_le _
 |x::a,b,hn,h=>by
  obtain⟨h1,h2⟩:=List.nodup_cons.mp hn;have hx:=h x List.mem_cons_self;have:=nodup_le a (b.erase x) h2 λy hy=>(List.mem_erase_of_ne (λz:y=x=>h1 (z ▸ hy))).mpr (h y (List.mem_cons_of_mem _ hy));rw[List.length_erase_of_mem hx]at this;have:=List.length_pos_of_mem hx;rw[List.length_cons];omega
noncomputable def fr(owner:Array (Option Nat))(j:Nat):Bool:=(owner.getD j (some 0)).isNone
theorem fm_all{α β:Type}(f:α->Option β):∀l:List α,(∀x∈l,(f x).isSome=true)->(l.filterMap f).map some=l.map f
 |[],_=>rfl
 |x::l,h=>by
  have ih:=fm_all f l λy hy=>h y (List.mem_cons_of_mem _ hy);have hx:=h x List.mem_cons_self;cases e:f x with
  |none=>rw[e]at hx;cases hx
  |some y=>rw[List.filterMap_cons_some e,List.map_cons,List.map_cons,ih,e]
end Tab
end L2
namespace L2
namespace Tab
open PySem
section
variable {prog:Program}{w:World}{A:Around}{E:Value->Shared->Prop}{s:Shared}
theorem items_int{r:List Int}{vs:List Value}(h:ItemsAre (intKind prog w) r vs):∀v∈vs,∃i t,v=.int i t:=by
 induction h with
 |nil=>intro v hv;cases hv
 |@cons k v ks vs h1 _ ih =>
  intro u hu;rcases List.mem_cons.mp hu with e|hu
  .obtain⟨t,ht⟩:=Value.isInt_shape h1;exact⟨k,t,e.trans ht⟩
  .exact ih u hu
noncomputable def hsh(prog:Program)(w:World)(r:List Int):Int:=tupleKeyHash (intKind prog w) r
end
end Tab
end L2
namespace L2
namespace Tab
open PySem
section
variable {prog:Program}{w:World}{A:Around}{R:Result->Shared->Prop}{I:Addr}{fp wr:List Addr}{G:Array GenState->Array GenState->Prop}{n:Nat}{P:Nat->Value->Prop}{St:Nat->Shared->Prop}
end
section
variable {prog:Program}{w:World}{A:Around}{E:Value->Shared->Prop}{s:Shared}
theorem a2d(a:Value){Q₁:Value->Shared->Prop}
  (h:Q₁ (.ref s.heap.objs.size) {s with heap:=s.heap.push {cls:=.type "set",dict:=none,data:=.set #[] 0 (.fresh 0 0 (!w.params.followText "set-order"))}}) :
  codeAny (model prog w) A (.call (.builtin "set.__new__") ⟨[.type "set",a],[]⟩) (wants Q₁ E) s:=by
 refine codeAny_of_tree ?_;show wpAny _ A.in1 (do checkBuiltinCall "set.__new__" ⟨[.type "set",a],[]⟩;again (.builtin "set.__new__" ⟨[.type "set",a],[]⟩)) _ _ s;refine wpAny_bind (wpAny_of_eq (PySem.F.newCall_set_1 a) (wpAny_pure ⟨plainId_quiet PySem.F.plain_set_new _,codeAny_builtin PySem.F.entry_set_new ?_⟩));rw[Around.under_plainId PySem.F.plain_set_new _];unfold Builtin.«set.__new__» Builtin.Frozenset.newClass;have hsub:=sub_set_self;obtain⟨hp,g,d,tk,os⟩:=s;dsimp only
 wp_walk
 refine wpAny_askSetting (wpAny_pure ?_);dsimp only;simp only[newObj];refine wpAny_bind (wpAny_alloc (wpAny_pure ?_));exact wpAny_pure h
theorem a2M:isSubtype (.type "list") (.type "set")=pure false:=by rw[isSubtype_type];kernel_rfl
theorem X3:isSubtype (.type "list") (.type "frozenset")=pure false:=by rw[isSubtype_type];kernel_rfl
end
end Tab
end L2
namespace L2
namespace Tab
open PySem PySem.W
section
variable {prog:Program}{w:World}{A:Around}{E:Value->Shared->Prop}{s:Shared}{a it:Addr}{es:Array (Int×Value)}{ep i:Nat}{t:SetTable}
end
end Tab
end L2
namespace L2
open PySem PySem.Spec PyProof.Rows PySem.W Tab
section
variable {X:Cx}
variable {e:Expr}{es:List Expr}{t:TA}{p pos:Pos}
end
end L2
namespace L2
open PySem PySem.Spec PyProof.Rows
section
variable {X:Cx}{a b:Expr}{ta tb:TE}{pos:Pos}
end
section
open PySem.SeqAt
open PySem.AutoSeq1 (wpAny_loadPart')
open PySem.MeetsSeq PySem.MeetsSeq2 PySem.MeetsSeq3
end
section
variable {X:Cx}{pins:List (Addr×Obj)}{σ:St}{H:Hp}{s:Shared}
end
section
variable {prog:Program}{w:World}{A:Around}{I l S:Addr}{vs:List Value}{kw:List (Str×Value)}{R:Result->Shared->Prop}{h₀:Heap}{s:Shared}
end
section
variable {prog:Program}{w:World}{A:Around}{E:Value->Shared->Prop}{s:Shared}
end
section
variable {X:Cx}{e:Expr}{t:TA}{p pos kp np:Pos}{nk:Nat}
end
section
theorem a1R(xs:Array Value):slicePick xs none none (some (-1))=xs.toList.reverse.toArray:=by
 rw[<-a7N];unfold slicePick;have e:sliceRange ((xs.size:Int)-1) (-1) (-1)=(List.range xs.size).map λ(k:Nat)=>(((xs.size:Int)-1)+(k:Int)*(-1)).toNat:=by
  unfold sliceRange;have:(if (-1:Int) > 0 then(if ((xs.size:Int)-1) < -1 then((-1:Int)-((xs.size:Int)-1) + -1-1) / -1 else 0)else(if ((xs.size:Int)-1) > -1 then(((xs.size:Int)-1) - -1 - -1-1) / (- -1)else 0)).toNat=xs.size:=by
   rw[if_neg (by decide)];split
   .rw[show(- -1:Int)=1 from rfl,Int.ediv_one];omega
   .omega
  dsimp only;rw[this];refine List.map_congr_left λk _=>?_;rw[Int.mul_comm]
 show((sliceRange ((xs.size:Int)-1) (-1) (-1)).filterMap (xs[·]?)).toArray=_;rw[e,List.filterMap_map];rfl
variable {X:Cx}{e:Expr}{te:TE}{pos p2:Pos}
def b3P(K:PySem.W.Frag)(te ts:TE):TE:=λσ H Q=>te σ H λx H1=>ts σ H1 λy H2=>y=.int (-1)/\∃a xs,x=.ref a/\SqL K H2 a xs/\∀p,H2 p=none->Q (.ref p) (upd H2 p (.lst xs.reverse))
theorem a8z(K:PySem.W.Frag){st:Expr}{ts:TE}(he:JE X e te)(hs:JE X st ts)(hK:X.K=K:=by rfl):JE X (.Subscript e (.Slice none none (some st) p2) pos) (b3P K te ts):=by
 subst hK;refine⟨λpins s σ H Q I h=>?_⟩;refine Subscript_ (thn (he.h pins s σ H _ I h) λv s1 ⟨x,H1,I1,r1,q1⟩=>?_);refine wpAny_Slice ?_;rw[evalPart_none];refine wpAny_pure ?_;refine wpAny_pure ?_;rw[evalPart_some];refine thn (hs.h pins s1 σ H1 _ I1 q1) λu s3 ⟨y,H3,I3,r3,q3⟩=>?_;obtain⟨rfl,a,xs,rfl,hx,q⟩:=q3;obtain⟨tk,rfl⟩:=r3;cases r1;have I4:Inv X pins σ H3 {s3 with heap:=s3.heap.push {cls:=.type "slice",data:=.fields #[.none,.none,.int (-1) tk]}}:=I3.kept (t':=s3.toks) λb ob q=>Heap.get?_push_of_some _ q;obtain⟨its,r,ht,hz⟩:=I4.list hx;have hlen:=r.length;show wpAny (model X.prog X.w) X.A (subscriptTail e (.Slice none none (some st) p2) (.ref a) (.ref s3.heap.objs.size)) (EP X pins σ Q) X.xe {s3 with heap:=s3.heap.push {cls:=.type "slice",data:=.fields #[.none,.none,.int (-1) tk]}};refine tail_any (ops:=[.ref a,.ref s3.heap.objs.size]) ht.isList.typeIs slot_list_getitem.lookup ?_ (by with_unfolding_all rfl);refine wpAny_getItem_list_slice (st:=some (-1)) ht.isList (Heap.IsSliceOf.new ..) .none .none (.int _ _) (by decide) ?_ (by rw[List.size_toArray];omega);rw[a1R];refine⟨.ref _,_,I4.laid (t':=s3.toks) (o:=.lst xs.reverse) (λb ob q=>Heap.get?_push_of_some _ q) (Nat.le_refl _) ?_,rfl,q _ (I4.hok.fresh (Nat.le_refl _))⟩;exact⟨by rw[List.length_reverse];exact hz,_,0,r.reverse,Heap.get?_push_size _ rfl⟩
end
section
variable {prog:Program}{w:World}{A:Around}{I l S:Addr}{vs:List Value}{kw:List (Str×Value)}{R:Result->Shared->Prop}{h₀:Heap}{s:Shared}
end
section
variable {prog:Program}{w:World}{A:Around}{E:Value->Shared->Prop}{s:Shared}
end
section
variable {X:Cx}{e:Expr}{t:TA}{p pos kp np:Pos}{nk:Nat}{d:Int}
end
open PySem.AutoSeq1 (wpAny_loadPart')
section
variable {prog:Program}{w:World}{A:Around}{E:Value->Shared->Prop}{s:Shared}
end
section
variable {X:Cx}{e:Expr}{es:List Expr}{t:TA}{p pos:Pos}
end
end L2
namespace L2
open PySem PySem.Spec PyProof.Rows
def a8E(items:Array Value)(x:Value)(i:Nat)(_:Option Fin×Unit):Sem (ForInStep (Option Fin×Unit)) :=
 match items[i]? with
 |some y=>do
  let b <-eqBool y x
  if b=true then do
    let r <-retInt (i:Int)
    pure (ForInStep.done (some r,()))
   else pure (ForInStep.yield (none,()))
 |x=>pure (ForInStep.yield (none,()))
theorem a5C{prog:Program}{w:World}{B:Around}{E:Value->Shared->Prop}{s:Shared}{items:Array Value}{x:Value}{f:Nat->Bool}{k:Nat}{Q:(Option Fin×Unit)->Shared->Prop}(hk:k<items.size)(hfk:f k=true)(hf:∀j,j<k->f j=false)(he:∀j y,items[j]?=some y->SeqAt.EqAt B s y x (f j))
  (q:Q (some (Fin.done (.ret (.int k s.toks))),()) {s with toks:=s.toks+1}):∀m j,j+m=items.size->j<=k->wpAny (model prog w) B (forIn (List.range' j m) ((none:Option Fin),()) (a8E items x)) Q E s
 |0,j,h,hj=>by omega
 |m+1,j,h,hj=>by
  rw[List.range'_succ,List.forIn_cons];have hlt:j<items.size:=by omega
  have hi:items[j]?=some items[j]:=by simp[hlt]
  refine wpAny_bind ?_;unfold a8E;rw[hi];refine wpAny_bind (he j _ hi prog w _ _ ?_);by_cases e:j=k
  .subst e;rw[hfk];obtain⟨hp,g,d,tk,os⟩:=s
   wp_walk
   exact q
  .rw[hf j (by omega)];refine wpAny_pure ?_;exact a5C hk hfk hf he q m (j+1) (by omega) (by omega)
theorem a8C(l:Addr)(items:Array Value)(n:Nat)(dd:Option Addr)(sl:Array (Option Value))(x:Value)(f:Nat->Bool)(k:Nat)(hk:k<items.size)(hfk:f k=true)(hf:∀j,j<k->f j=false) :
  Meets (Builtin.«tuple.index» ⟨[.ref l,x],[]⟩)
   (λA R s=>s.heap.get? l=some {cls:=.type "tuple",dict:=dd,data:=.seq items n,slots:=sl}/\(∀j y,items[j]?=some y->SeqAt.EqAt A.in1 s y x (f j))/\R (.ok (.ret (.int k s.toks))) {s with toks:=s.toks+1}):=by
 intro prog w A R s h;obtain⟨hp,g,d,tk,os⟩:=s;obtain⟨hl,he,h⟩:=h;unfold Builtin.«tuple.index»;simp only[Std.Legacy.Range.forIn_eq_forIn_range',Std.Legacy.Range.size]
 wp_walk using PySem.AutoSeq1.wpAny_loadPart' hl
 have e:(min items.size items.size-0+1-1) / 1=items.size:=by simp
 rw[e];refine a5C hk hfk hf he ?_ items.size 0 (by omega) (Nat.zero_le _);exact wpAny_pure h
def a7A(K:PySem.W.Frag):V->List V->Hp->VK->Prop:=λx vs H Q=>∃(a:Addr) (xs:List V) (y:V) (n:Nat) (f:Nat->Bool) (k:Nat),x=.ref a/\vs=[y]/\H a=some (.tup xs)/\n<=8/\(∀j z,xs[j]?=some z->EqV K H n z y (f j))/\k<xs.length/\f k=true/\(∀j,j<k->f j=false)/\Q (.int k) H
section
variable {X:Cx}
theorem a8q(hu:X.A.units+60<cLine):MtM X "tuple.index" (a7A X.K):=by
 intro pins s σ H x vs v us Q I rx rv h;obtain⟨a,xs,y,n,f,k,rfl,rfl,ha,hn,he,hk,hfk,hf,q⟩:=h;cases rx;obtain⟨u,rfl,ru⟩:=a0y rv;obtain⟨z,its,r,o,ho,hc,m,hd⟩:=(show ObjOk X.prog X.w H s.heap a (.tup xs)from I.hok a _ ha);obtain⟨cls,dd,data,sl⟩:=o;have hc1:cls=.type "tuple":=congrArg Prod.fst hc;simp only at hd;subst hc1 hd;have hlen:=r.length;refine call_meets PySem.F.slot_tuple_index ⟨_,ho,rfl⟩ PySem.F.entry_tuple_index (PySem.F.args_tuple_index_2 _ _) (a8C a its.toArray m dd sl u f k (by rw[List.size_toArray,<-hlen];exact hk) hfk hf) ⟨ho,λj y' hy=>?_,.int k,H,I.tok _,⟨_,rfl⟩,q⟩;have hy:its[j]?=some y':=by simpa using hy
 have hj:j<xs.length:=by rw[hlen];exact(List.getElem?_eq_some_iff.mp hy).1
 obtain⟨w',hw,rw'⟩:=r.get (List.getElem?_eq_getElem hj);rw[hy]at hw;cases hw;exact EqV.at I (he j _ (List.getElem?_eq_getElem hj)) (by show X.A.units+1+n<cLine;omega) rw' ru
def b3U(r:V->List V->Hp->VK->Prop)(to:TE)(t:TA):TE:=λσ H Q=>to σ H λx H1=>(∃a xs,x=.ref a/\H1 a=some (.tup xs))/\t σ H1 λvs H2=>r x vs H2 Q
variable {o e:Expr}{es:List Expr}{to:TE}{t:TA}{name:Str}{apos cpos pos:Pos}{id:String}{r:V->List V->Hp->VK->Prop}
theorem b2u(slot:Slot "tuple" name id)(hty:typeOf (.builtin id)=pure (.type "method_descriptor"))(hm:MtM X id r)(ho:PE X o to)(ha:PA X (e::es) t)
  (hbase:attributeBase o name X.env (eval o X.env)=eval o X.env:=by rfl)
  (hfew:((backTo cpos (starEach (e::es) X.env)).all (λx=>!x.1) && (backToKw cpos (keywordEach [] X.env)).all (λx=>x.1.isSome)
   && decide ((e::es).length+([]:List Keyword).length+(if ([]:List Keyword).isEmpty then 0 else 1)<30))=true:=by rfl)
  (hline:(apos.endLine==cpos.line)=true:=by rfl) (hs:starEach (e::es) X.env=(false,eval e X.env)::starEach es X.env:=by rfl) (hplain:(backTo cpos (starEach es X.env)).any (·.1)=false:=by rfl) :
  PE X (.Call (.Attribute o name apos) (e::es) [] cpos) (b3U r to t):=by
 intro pins s σ H Q I h;refine wpAny_Call_method_late hbase hfew hline rfl (thn (ho pins s σ H _ I h) λv s1 ⟨x,H1,I1,r1,⟨a,xs,hx,hax⟩,q1⟩=>?_);subst hx;cases r1;obtain⟨z,its,rr,ob,hob,hc,m,hd⟩:=(show ObjOk X.prog X.w H1 s1.heap a (.tup xs)from I1.hok a _ hax);refine⟨"tuple",id,PySem.F.plainAttrs_tuple,slot,hty,⟨ob,hob,congrArg Prod.fst hc⟩,(λb eb=>by cases eb;exact⟨ob,hob,congrArg Prod.snd hc⟩),?_⟩;have hA:=ha cpos pins s1 σ H1 _ I1 q1;rw[hs]at hA⊢;refine Calls.callWith_builtin (by show(false || (backTo cpos (starEach es X.env)).any (·.1))=false;rw[hplain]<;>rfl) (Calls.evalArgs_plain ?_);exact thn hA λus s2 ⟨vs,H2,I2,r2,q2⟩=>hm pins s2 σ H2 (.ref a) vs (.ref a) us Q I2 rfl r2 q2
theorem a6t(K:PySem.W.Frag)(hu:X.A.units+60<cLine)(ho:JE X o to)(ha:JA X (e::es) t)(hK:X.K=K:=by rfl)(hbase:attributeBase o "index" X.env (eval o X.env)=eval o X.env:=by rfl)
  (hfew:((backTo cpos (starEach (e::es) X.env)).all (λx=>!x.1) && (backToKw cpos (keywordEach [] X.env)).all (λx=>x.1.isSome) && decide ((e::es).length+([]:List Keyword).length+(if ([]:List Keyword).isEmpty then 0 else 1)<30))=true:=by rfl)
  (hline:(apos.endLine==cpos.line)=true:=by rfl) (hs:starEach (e::es) X.env=(false,eval e X.env)::starEach es X.env:=by rfl) (hplain:(backTo cpos (starEach es X.env)).any (·.1)=false:=by rfl) :
  JE X (.Call (.Attribute o "index" apos) (e::es) [] cpos) (b3U (a7A K) to t):=by
 subst hK;exact⟨b2u PySem.F.slot_tuple_index PySem.F.type_tuple_index (a8q hu) ho.h ha.h hbase hfew hline hs hplain⟩
end
section
variable {X:Cx}
end
end L2
namespace L2
open PySem PySem.Spec PyProof.Rows PySem.Builtin PySem.Builtin.Str PySem.StrLaws
theorem a0j:∀{ys:List Str}{us:List Value},Vals (ys.map V.str) us->∃l:List (Str×Tok),us=strValues l/\l.map (·.1)=ys
 |[],us,h=>by cases h;exact⟨[],rfl,rfl⟩
 |y::ys,us,h=>by
  cases h with
  |cons r q =>
   obtain⟨t,rfl⟩:=r;obtain⟨l,rfl,e⟩:=a0j q;exact⟨(y,t)::l,rfl,by rw[List.map_cons,e]⟩
def b1m(K:PySem.W.Frag):V->List V->Hp->VK->Prop:=λx vs H Q=>∃(sep:Str) (p:Addr) (ys:List Str) (B:Nat),x=.str sep/\vs=[.ref p]/\SqL K H p (ys.map V.str)/\(∀y∈ys,y.length<=B)/\ys.length*B+ys.length*sep.length<=16777216/\(Str.join sep ys).length<=sizeLine/\Q (.str (Str.join sep ys)) H
section
variable {X:Cx}
theorem b0h(K:PySem.W.Frag)(hK:X.K=K:=by rfl):MtR X "str.join" (b1m K):=by
 subst hK;intro pins s σ H x vs v us Q I rx rv h;obtain⟨sep,p,ys,B,rfl,rfl,hs,hB,hf,hz,q⟩:=h;obtain⟨t,rfl⟩:=rx;obtain⟨u,rfl,ru⟩:=rv.one;cases ru;obtain⟨its,ri,sq,_⟩:=I.list hs;obtain⟨l,rfl,hl⟩:=a0j ri;have ht:tooLong ((l.map (·.1)).toArray.foldl (·+·.length+sep.length) 0)=false:=by
  rw[hl];exact joinFits hB hf
 refine call_meets PySem.F.slot_str_join (typeIs_str _ _ _) PySem.F.entry_str_join (PySem.F.args_str_join_2 _ _) (meets_str_join_list sep t p l ht) ⟨sq.isList,?_⟩
 match l,hl with
 |[z],hl =>
  have e:Str.join sep ys=z.1:=by rw[<-hl];exact(glued_eq_join sep [z.1]).symm
  rw[e]at q;exact⟨.str z.1,H,I,⟨_,rfl⟩,q⟩
 |[],hl =>
  refine⟨?_,.str (Str.join sep ys),H,I.tok _,⟨s.toks,?_⟩,q⟩
  .show(glued sep []).length<=_;rw[glued_eq_join,show([]:List Str)=ys from hl];exact hz
  .show Value.str (glued sep []) _=_;rw[glued_eq_join,show([]:List Str)=ys from hl]
 |z::z2::l,hl =>
  refine⟨?_,.str (Str.join sep ys),H,I.tok _,⟨s.toks,?_⟩,q⟩
  .show(glued sep ((z::z2::l).map (·.1))).length<=_;rw[glued_eq_join,hl];exact hz
  .show Value.str (glued sep ((z::z2::l).map (·.1))) _=_;rw[glued_eq_join,hl]
end
theorem a2j:∀(ys:List Str) (tk:Nat),Vals (ys.map V.str) (strsFrom tk ys)
 |[],_=>.nil
 |y::ys,tk=>.cons ⟨tk,rfl⟩ (a2j ys (tk+1))
def a7w:V->List V->Hp->VK->Prop:=λx vs H Q=>∃(a b:Str),x=.str a/\vs=[.str b]/\1<=b.length/\a.length+2<=sizeLine/\∀p,H p=none->Q (.ref p) (upd H p (.lst ((Txt.split a b).map V.str)))
section
variable {X:Cx}
theorem a8n:MtR X "str.split" a7w:=by
 intro pins s σ H x vs v us Q I rx rv h;obtain⟨a,b,rfl,rfl,hb,ha,q⟩:=h;obtain⟨t,rfl⟩:=rx;obtain⟨u,rfl,ru⟩:=rv.one;obtain⟨t2,rfl⟩:=ru;have hlen:=split_le a b;have one:Txt.split a b=[a]->EP X pins σ Q (.ref s.heap.objs.size) {s with heap:=s.heap.push {cls:=.type "list",data:=.seq [Value.str a t].toArray}}:=λe=>by
  rw[e]at q;exact⟨.ref s.heap.objs.size,_,I.laid (t':=s.toks) (o:=.lst [.str a]) (λb ob q=>Heap.get?_push_of_some _ q) (Nat.le_refl _) ⟨by show 1<=sizeLine;omega,_,0,.cons ⟨t,rfl⟩ .nil,Heap.get?_push_size _ rfl⟩,rfl,q _ (I.hok.fresh (Nat.le_refl _))⟩
 by_cases h1:(decide (a.length<b.length) || decide (strKind a<strKind b))=true
 .refine call_meets PySem.F.slot_str_split (typeIs_str _ _ _) PySem.F.entry_str_split (PySem.F.args_str_split_2 _ _) (meets_str_split_cannot_occur a b t t2 h1) (one ?_);unfold Txt.split;rw[if_pos h1]
 .have h1':(decide (a.length<b.length) || decide (strKind a<strKind b))=false:=by simpa using h1
  have hy:(b.length==0)=false:=by
   rw[beq_eq_false_iff_ne];omega
  by_cases hf:(occurrences a b 0 a.length (a.length+1)).isEmpty=true
  .refine call_meets PySem.F.slot_str_split (typeIs_str _ _ _) PySem.F.entry_str_split (PySem.F.args_str_split_2 _ _) (meets_str_split_not_found a b t t2 h1' hy hf) (one ?_);unfold Txt.split;rw[if_neg h1,if_pos hf]
  .have hf':(occurrences a b 0 a.length (a.length+1)).isEmpty=false:=by simpa using hf
   have e:Txt.split a b=partsBetween a (occurrences a b 0 a.length (a.length+1)) b.length:=by
    unfold Txt.split;rw[if_neg h1,if_neg hf]
   rw[e]at q hlen;refine call_meets PySem.F.slot_str_split (typeIs_str _ _ _) PySem.F.entry_str_split (PySem.F.args_str_split_2 _ _) (meets_str_split_sep a b t t2 h1' hy hf' (by omega) (by omega)) ?_;exact⟨.ref s.heap.objs.size,_,I.laid (t':=s.toks+_) (o:=.lst ((partsBetween a (occurrences a b 0 a.length (a.length+1)) b.length).map V.str)) (λb ob q=>Heap.get?_push_of_some _ q) (Nat.le_refl _) ⟨by rw[List.length_map];omega,_,0,a2j _ _,Heap.get?_push_size _ rfl⟩,rfl,q _ (I.hok.fresh (Nat.le_refl _))⟩
end
theorem a8Z{α:Type}{c:α}:∀{a b u v:List α},c∉a->c∉b->a++c::u=b++c::v->a=b/\u=v
 |[],[],_,_,_,_,h=>by injection h with _ h;exact⟨rfl,h⟩
 |[],y::b,_,_,_,hb,h=>by
  injection h with h1 _
  exact absurd (by rw[h1];exact List.mem_cons_self) hb
 |x::a,[],_,_,ha,_,h=>by
  injection h with h1 _
  exact absurd (by rw[<-h1];exact List.mem_cons_self) ha
 |x::a,y::b,u,v,ha,hb,h=>by
  injection h with h1 h2
  obtain⟨e1,e2⟩:=a8Z (λz=>ha (List.mem_cons_of_mem _ z)) (λz=>hb (List.mem_cons_of_mem _ z)) h2;exact⟨by rw[h1,e1],e2⟩
theorem V2(c:Nat)(x y:Str)(r:List Str):(Str.join ⟨#[c]⟩ (x::y::r)).cps.toList=x.cps.toList++c::(Str.join ⟨#[c]⟩ (y::r)).cps.toList:=by
 show(x++⟨#[c]⟩++Str.join ⟨#[c]⟩ (y::r)).cps.toList=_;rw[Str.cps_append,Str.cps_append,Array.toList_append,Array.toList_append,List.append_assoc];rfl
theorem a4b{c:Nat}:∀{ps qs:List Str},ps≠[]->qs≠[]->(∀a∈ps,c∉a.cps.toList)->(∀a∈qs,c∉a.cps.toList)->Str.join ⟨#[c]⟩ ps=Str.join ⟨#[c]⟩ qs->ps=qs
 |[],_,h,_,_,_,_=>absurd rfl h
 |_,[],_,h,_,_,_=>absurd rfl h
 |[p],[q],_,_,_,_,h=>by rw[show p=q from h]
 |[p],q::q2::r,_,_,hp,_,h=>by
  have:=congrArg (λx:Str=>x.cps.toList) h;rw[V2]at this;exact absurd (by rw[show p.cps.toList=_ from this];exact List.mem_append_right _ List.mem_cons_self) (hp p List.mem_cons_self)
 |p::p2::r,[q],_,_,_,hq,h=>by
  have:=congrArg (λx:Str=>x.cps.toList) h;rw[V2]at this;exact absurd (by rw[show q.cps.toList=_ from this.symm];exact List.mem_append_right _ List.mem_cons_self) (hq q List.mem_cons_self)
 |p::p2::r,q::q2::s,_,_,hp,hq,h=>by
  have:=congrArg (λx:Str=>x.cps.toList) h;rw[V2,V2]at this;obtain⟨e1,e2⟩:=a8Z (hp p List.mem_cons_self) (hq q List.mem_cons_self) this;have e3:Str.join ⟨#[c]⟩ (p2::r)=Str.join ⟨#[c]⟩ (q2::s):=Str.ext' (Array.toList_inj.mp e2);rw[Str.ext' (Array.toList_inj.mp e1),a4b (by simp) (by simp) (λa ha=>hp a (List.mem_cons_of_mem _ ha)) (λa ha=>hq a (List.mem_cons_of_mem _ ha)) e3]
theorem a1g{c:Nat}{ps:List Str}(h0:ps≠[])(h:∀a∈ps,c∉a.cps.toList):Txt.split (Str.join ⟨#[c]⟩ ps) ⟨#[c]⟩=ps:=by
 refine a4b (c:=c) (λz=>?_) h0 (λa ha=>?_) h (join_split _ _)
 .have:=split_pos (Str.join ⟨#[c]⟩ ps) ⟨#[c]⟩;rw[z]at this;simp at this
 .exact split_free _ c a ha
end L2
namespace L2
open PySem PySem.Spec PyProof.Rows PySem.NumText
def C6(n:Nat):Str:=Str.ofString (toString ((n:Nat):Int))
theorem L8(n:Nat):(C6 n).cps.toList=(Nat.toDigits 10 n).map Char.toNat:=PySem.W.KIN.signs_num n
theorem V3(n:Nat):AllDigits (C6 n).cps.toList:=λc hc=>by
 rw[L8]at hc;obtain⟨ch,hch,e⟩:=List.mem_map.mp hc;have r:=digit_range (Nat.isDigit_of_mem_toDigits (by decide) (by decide) hch);rw[<-e];exact r
theorem a0e{n k:Nat}(hk:0<k):(C6 n).length<=k↔n<10 ^ k:=by
 rw[<-Nat.length_toDigits_le_iff (b:=10) (by decide) hk,show(C6 n).length=(C6 n).cps.toList.length by rw[Array.length_toList];rfl,L8,List.length_map]
theorem a0d(n:Nat):(C6 n).cps.toList≠[]:=by
 rw[L8];intro e;have h:=Nat.length_toDigits_pos (b:=10) (n:=n);rw[List.map_eq_nil_iff.mp e]at h;exact absurd h (by decide)
theorem a4U{n:Nat}(h:(C6 n).length<=4300):PySem.intText? (C6 n)=some (n:Int):=by
 have e:=intText_digits (V3 n) (a0d n) h;rw[L8,PySem.W.KIN.val_back]at e;exact e
theorem a6D:∀n:Nat,0<n->(C6 n).cps.toList.head?≠some 48:=by
 have key:∀n:Nat,0<n->∃d,0<d/\d<10/\(Nat.toDigits 10 n).head?=some (Nat.digitChar d):=by
  intro n;induction n using Nat.strongRecOn with
  |_ n ih =>
   intro hn;by_cases h:n<10
   .exact⟨n,hn,h,by rw[Nat.toDigits_of_lt_base h];rfl⟩
   .obtain⟨d,d0,d1,e⟩:=ih (n / 10) (by omega) (by omega);refine⟨d,d0,d1,?_⟩;have t:=Nat.toDigits_append_toDigits (b:=10) (n:=n / 10) (d:=n % 10) (by decide) (by omega) (Nat.mod_lt _ (by decide));rw[Nat.div_add_mod]at t;rw[<-t,List.head?_append,e];rfl
 intro n hn;obtain⟨d,d0,d1,e⟩:=key n hn;rw[L8,List.head?_map,e];have:∀d:Nat,d<10->0<d->some ((Nat.digitChar d).toNat)≠some 48:=by decide
 exact this d d1 d0
theorem a6B:C6 0=Str.ofString "0":=rfl
def b1n:RL:=λxs H Q=>∃(x:Str) (n:Int),xs=[.str x]/\x.length<=640/\PySem.intText? x=some n/\Q (.int n) H
def a7v:RL:=λxs H Q=>∃(n:Nat),xs=[.int n]/\n<10 ^ 570/\Q (.str (C6 n)) H
section
variable {X:Cx}{e:Expr}{t:TA}{p pos:Pos}
theorem a6S:E9 X (.type "int") b1n:=by
 intro pins s σ H xs us Q I r h;obtain⟨x,n,rfl,hl,hn,q⟩:=h;obtain⟨u,rfl,t,rfl⟩:=r.one;exact PySem.W.KIN.call_text hn hl ⟨.int n,H,I.tok _,⟨_,rfl⟩,q⟩
theorem a6L:E9 X (.type "str") a7v:=by
 intro pins s σ H xs us Q I r h;obtain⟨n,rfl,hl,q⟩:=h;refine a3s pins s σ H _ us Q I r ⟨n,rfl,?_,q⟩;have h1:n<2 ^ 1900:=Nat.lt_trans hl (by decide +kernel);by_cases h0:n=0
 .subst h0;decide
 .exact(Nat.log2_lt (show(n:Int).natAbs≠0 by omega)).mpr (by rw[Int.natAbs_natCast];exact Nat.lt_trans h1 (by decide +kernel))
theorem b0p(hg:Gl X "int")(hm:X.mg "int"=none)(ha:JA X [e] t)(he:starEach [e] X.env=(false,eval e X.env)::starEach [] X.env:=by rfl)(hpl:(backTo pos (starEach [] X.env)).any (·.1)=false:=by rfl):JE X (.Call (.Name "int" p) [e] [] pos) (tCB b1n t):=⟨N6 a6S hg hm a5d ha.h (by decide) (by decide) he hpl⟩
theorem a0U(hg:Gl X "str")(hm:X.mg "str"=none)(ha:JA X [e] t)(he:starEach [e] X.env=(false,eval e X.env)::starEach [] X.env:=by rfl)(hpl:(backTo pos (starEach [] X.env)).any (·.1)=false:=by rfl):JE X (.Call (.Name "str" p) [e] [] pos) (tCB a7v t):=⟨N6 a6L hg hm a5b ha.h (by decide) (by decide) he hpl⟩
end
section
variable {X:Cx}{o e:Expr}{es:List Expr}{to:TE}{t:TA}{apos cpos:Pos}
theorem a0T(K:PySem.W.Frag)(ho:JE X o to)(ha:JA X (e::es) t)(hK:X.K=K:=by rfl)(hbase:attributeBase o "join" X.env (eval o X.env)=eval o X.env:=by rfl)
  (hfew:((backTo cpos (starEach (e::es) X.env)).all (λx=>!x.1) && (backToKw cpos (keywordEach [] X.env)).all (λx=>x.1.isSome) && decide ((e::es).length+([]:List Keyword).length+(if ([]:List Keyword).isEmpty then 0 else 1)<30))=true:=by rfl)
  (hline:(apos.endLine==cpos.line)=true:=by rfl) (hs:starEach (e::es) X.env=(false,eval e X.env)::starEach es X.env:=by rfl) (hplain:(backTo cpos (starEach es X.env)).any (·.1)=false:=by rfl) :
  JE X (.Call (.Attribute o "join" apos) (e::es) [] cpos) (tBM K "str" (b1m K) to t):=⟨U4 K PySem.F.plainAttrs_str PySem.F.slot_str_join PySem.F.type_str_join (b0h K hK) ho.h ha.h hK hbase hfew hline hs hplain⟩
theorem a4c(K:PySem.W.Frag)(ho:JE X o to)(ha:JA X (e::es) t)(hK:X.K=K:=by rfl)(hbase:attributeBase o "split" X.env (eval o X.env)=eval o X.env:=by rfl)
  (hfew:((backTo cpos (starEach (e::es) X.env)).all (λx=>!x.1) && (backToKw cpos (keywordEach [] X.env)).all (λx=>x.1.isSome) && decide ((e::es).length+([]:List Keyword).length+(if ([]:List Keyword).isEmpty then 0 else 1)<30))=true:=by rfl)
  (hline:(apos.endLine==cpos.line)=true:=by rfl) (hs:starEach (e::es) X.env=(false,eval e X.env)::starEach es X.env:=by rfl) (hplain:(backTo cpos (starEach es X.env)).any (·.1)=false:=by rfl) :
  JE X (.Call (.Attribute o "split" apos) (e::es) [] cpos) (tBM K "str" a7w to t):=⟨U4 K PySem.F.plainAttrs_str PySem.F.slot_str_split PySem.F.type_str_split a8n ho.h ha.h hK hbase hfew hline hs hplain⟩
end
end L2
namespace L2
open PySem PySem.Spec PyProof.Rows
def Itc(x:Str):It:=⟨λi _=>i<x.cps.size,λi H v H'=>H'=H/\∃c,x.cps[i]?=some c/\v=.str ⟨#[c]⟩,λi _=>x.cps.size<=i⟩
theorem a5R{P:Program}{w:World}{K:PySem.W.Frag}{tg:Expr}(it:Addr)(x:Str)(t:Tok):Turn P w K tg (Itc x) [it] it (λi h=>h.IsStrIter it "str_ascii_iterator" x t i) where
 mem:=by simp
 obj:=λi h st b hb=>by
  have e:b=it:=by simpa using hb
  subst e;obtain⟨o,e,c,d⟩:=st;exact⟨o,e,λv z=>by rw[d]at z;cases z⟩
 keep:=λi h h' st k=>let ⟨o,ho,r⟩:=st;⟨o,k it (by simp) o ho,r⟩
 item:=by
  intro X hP hw hK hc i pins s σ H E I hf st hg;subst hP hw hK;obtain⟨f0,f1,f2,f3,f4,f5⟩:=hf it (by simp);have hg:i<x.cps.size:=hg;refine wpAny_pyNext_ascii_item st (c:=x.cps[i]) (by simp[hg]) λh' st' sb=>?_;have I1:Inv X pins σ H {s with heap:=h',toks:=s.toks+1}:=I.turned (t':=s.toks+1) (λb o hb e=>sb.extBut b o hb e) f0 f1 f3 f4 f5;obtain⟨o,e,c,d⟩:=id st';exact⟨_,rfl,a5G (s:={s with heap:=h',toks:=s.toks+1}) e c d (by decide) ⟨.str ⟨#[x.cps[i]]⟩,H,I1,⟨_,rfl⟩,⟨rfl,_,by simp[hg],rfl⟩,st',λb hb=>(hf b hb).1⟩⟩
 done:=by
  intro X hP hw hK hc i pins s σ H E I hf st hg;subst hP hw hK;obtain⟨f0,f1,f2,f3,f4,f5⟩:=hf it (by simp);have hg:x.cps.size<=i:=hg;exact wpAny_pyNext_ascii_end (I.ok.hd hc) st (by simp[hg]) λh' eb=>⟨rfl,I.turned (t':=s.toks) (λb o hb e=>eb b o hb e) f0 f1 f3 f4 f5⟩
 self:=λ_ _ _ _ _ st h=>wpAny_pyIter_striter_ascii st h
def b1v(tl:TE):TI:=λσ H R=>tl σ H λv H1=>∃x:Str,v=.str x/\x.cps.all (· < 128)=true/\R (Itc x) H1
section
variable {X:Cx}{tg:Expr}
theorem a9K{l:Expr}{tl:TE}(hl:PE X l tl):PI X tg l (b1v tl):=by
 intro pins s σ H R I h;refine thn (hl pins s σ H _ I h) λv s1 ⟨x,H1,I1,r1,q1⟩=>?_;obtain⟨x,rfl,ha,q⟩:=q1;obtain⟨t,rfl⟩:=r1;refine wpAny_pyIter_ascii ha ?_;refine⟨s1.heap.objs.size,[s1.heap.objs.size],_,_,H1,rfl,I1.kept (t':=s1.toks) λb o e=>Heap.get?_push_of_some _ e,a5R _ x t,⟨_,Heap.get?_push_size _ rfl,rfl,rfl⟩,λb hb=>?_,q⟩;have e:b=s1.heap.objs.size:=by simpa using hb
 subst e;exact I1.fpOk (Nat.le_refl _) (I1.hok.fresh (Nat.le_refl _))
theorem a5z{l:Expr}{tl:TE}(hl:JE X l tl):JI X tg l (b1v tl):=⟨a9K hl.h⟩
end
theorem a6J{src:List (Option Nat)}{g:TG}{tt:TT}{te:TE}{σ:St}{Q:VK}{x:Str}{H1:Hp}(hn:x.cps.size<=sizeLine)(Pv:Nat->List V->Hp->Prop)(h0:Pv 0 [] H1)
  (hl:∀i ys H,Pv i ys H->ys.length<=i)
  (hs:∀i c ys H,x.cps[i]?=some c->Pv i ys H->g (.str ⟨#[c]⟩) (B8 src σ) H λσ2 H2=>Sub (B8 src σ) σ2/\tt σ2 H2 λb H3=>if b=true then te σ2 H3 λv H4=>Pv (i+1) (ys++[v]) H4 else Pv (i+1) ys H3)
  (hd:∀ys H,Pv x.cps.size ys H->∀p,H p=none->Q (.ref p) (upd H p (.lst ys))):L9 src g tt te σ Q (Itc x) H1 :=
 a0g x.cps.size Pv h0 (λi ys H hi p=>⟨hi,by have:=hl i ys H p;omega,λv H' y=>by obtain⟨rfl,c,hc,rfl⟩:=y;exact hs i c ys _ hc p⟩)
  λys H p=>⟨Nat.le_refl _,Nat.le_trans (hl _ ys H p) hn,hd ys H p⟩
section
variable {prog:Program}{w:World}{A:Around}{E:Value->Shared->Prop}{s:Shared}
theorem a1p{T newId:String}{me:Value}{rest:List Value}{kw:List (Str×Value)}(hl:typeLookup (.type T) "__init__"=pure (some (.builtin "object.__init__")))
  (hm:Bind.madeBy (.type T)=pure (some newId)) (hne:(some newId != some "object.__new__")=true) :
  Meets (Builtin.«object.__init__» ⟨me::rest,kw⟩) (λ_ R s=>s.TypeIs me T/\R (.ok (.ret .none)) s):=by
 refine Meets.of_wp λprog w A R s ⟨hT,hq⟩=>?_;cases rest with
 |nil =>
  cases kw with
  |nil=>exact wpAny_pure ⟨_,rfl,hq⟩
  |cons y kw =>
   repeat (any_goals (first|assumption|wp_step))
   exact⟨_,rfl,hq⟩
 |cons y rest =>
  repeat (any_goals (first|assumption|wp_step))
  exact⟨_,rfl,hq⟩
theorem a4v{T newId:String}{Bn:Builtin}{args:List Value}{kw:List (Str×Value)}{S:PySem.Spec}{Q:Value->Shared->Prop}(ft:TypeCalled T newId "object.__init__")
  (hne:(some newId != some "object.__new__")=true) (hct:checkTypeCall T ⟨args,kw⟩=pure ()) (hcn:checkBuiltinCall newId ⟨.type T::args,kw⟩=pure ())
  (hok:∀obj,argsOk "object.__init__" ⟨obj::args,kw⟩) (en:entryFor table newId=some Bn) (g:Meets (Bn ⟨.type T::args,kw⟩) S)
  (h:S A.in1 (wants (λobj s₁=>s₁.TypeIs obj T/\Q obj s₁) E) s):wpAny (model prog w) A (call (.type T) args kw) Q E s:=by
 obtain⟨m0,ml,hmro⟩:=ft.mro;have a1:=ft.made;have a2:=ft.sub;refine wpAny_call (codeAny_of_tree ?_);show wpAny _ _ (callAny (.type T) _) _ _ _;refine wpAny_pure ⟨Code.quiet_builtin _ (by decide +kernel),codeAny_builtin F.entry_type_call ?_⟩;rw[Around.under_plain (weight_type_call_type T args kw) (units_type_call_type T args kw)];have a3:=ft.notType;have a4:=ft.canCreate
 repeat (any_goals (first|assumption|wp_step))
 refine codeAny_mono (codeAny_call_builtin ft.plain en (wpAny_of_eq hcn (g prog w A.in1 _ s h))) λr s₁ hr=>?_;rcases r with x|fl
 .exact hr
 cases fl with
 |ret obj =>
  obtain⟨hT,hq⟩:=hr;have a5:=ft.init.lookup;have a6:=ft.init.bind obj
  repeat (any_goals (first|assumption|wp_step))
  refine codeAny_mono (codeAny_call_builtin ft.init.plain F.entry_object_init (ft.init.check _ _ _ _ _ _ _ _ hT (hok obj) ((a1p ft.init.lookup ft.made hne) prog w A.in1 (wants (λr s₂=>r=.none/\Q obj s₂) E) s₁ ⟨hT,rfl,hq⟩))) λr₂ s₂ hr₂=>?_;rcases r₂ with x|fl₂
  .exact hr₂
  cases fl₂ with
  |ret r =>
   obtain⟨rfl,hq⟩:=hr₂
   repeat (any_goals (first|assumption|wp_step))
  |_=>exact hr₂.elim
 |_=>exact hr.elim
theorem a6E{k:Bool}(l:Addr)(xs:Array Value)(t:Tok) :
  Meets (Builtin.«enumerate.__new__» ⟨[.type "enumerate",.ref l],[(Str.ofString "start",.int 1 t)]⟩) (λ_ R s=>SqAt k s.heap l xs /\
   R (.ok (.ret (.ref (s.heap.push (O2 k l)).objs.size))) {s with heap:=(s.heap.push (O2 k l)).push {cls:=.type "enumerate",data:=.fields #[.none,.bool false,.ref s.heap.objs.size,rawInt 1,.none,.none]}}) :=
 .of_wp λprog w A R s h=>by
  obtain⟨hp,g,d,tk,os⟩:=s;obtain⟨hl1,h⟩:=h;have hsub:=sub_enumerate;have hL1:SqAt k (Shared.heap ⟨hp,g,d,tk,os⟩) l xs:=hl1
  wp_walk using N8 hL1
  intro Γ p hg;change wpAny _ _ (pure (_:Bool)) _ _ _;refine wpAny_pure ?_;refine b1D ?_ ?_
  .wp_walk using N8 hL1
   exact⟨_,rfl,h⟩
  .wp_walk using N8 hL1
   exact⟨_,rfl,h⟩
theorem a4V{k:Bool}{e it l:Addr}{i:Nat}{z:Int}{items:Array Value}{x old:Value}{Q:Value->Shared->Prop}(he:IsEnum s.heap e it z old)(hit:ItAt k s.heap it l i)(hl:SqAt k s.heap l items)(hx:items[i]?=some x)(ne:e≠it)
  (hQ:∀(h':Heap) (t:Tok) (tk:Nat),IsEnumOut h' e it (z+1) x s.heap.objs.size->ItAt k h' it l (i+1)->h'.get? s.heap.objs.size=some {cls:=.type "tuple",data:=.seq #[.int z t,x]}->h'.objs.size=s.heap.objs.size+1 ->
   (∀b o,b≠e->b≠it->s.heap.get? b=some o->h'.get? b=some o)->Q (.ref s.heap.objs.size) {s with heap:=h',toks:=tk}) :
  wpAny (model prog w) A (Builtin.«enumerate.__next__» ⟨[.ref e],[]⟩) (λfin s'=>∃v,fin=.done (.ret v)/\Q v s') E s:=by
 show wpAny _ _ (field (.ref e) 2>>=_) _ _ _;refine wpAny_bind (wpAny_field he rfl (x:=.ref it) rfl ?_);refine wpAny_bind (Y8 hit hl hx λh1 it1 hs1=>?_);have he1:IsEnum h1 e it z old:=hs1.extBut _ _ ne he;show wpAny _ _ (field (.ref e) 3>>=_) _ _ _;refine wpAny_bind (wpAny_field he1 rfl (x:=rawInt z) rfl ?_);show wpAny _ _ (field (.ref e) 4>>=_) _ _ _;refine wpAny_bind (wpAny_field he1 rfl (x:=.none) rfl ?_);show wpAny _ _ (if (Value.none==Value.none)=true then _ else _) _ _ _;rw[if_pos (by decide)];refine wpAny_bind (wpAny_mkInt ?_);refine wpAny_bind (wpAny_setField_rec (s:={s with heap:=h1,toks:=s.toks+1}) he1 (by simp) λh2 he2 hs2=>?_);replace he2:IsEnum h2 e it (z+1) old:=he2;refine wpAny_bind (wpAny_setField_rec (s:={s with heap:=h2,toks:=s.toks+1}) he2 (by simp) λh3 he3 hs3=>?_);replace he3:IsEnum h3 e it (z+1) old:=he3;refine wpAny_bind (wpAny_newTuple ?_);have hsz:h3.objs.size=s.heap.objs.size:=by rw[hs3.1,hs2.1,hs1.1]
 have hlt:e<h3.objs.size:=Heap.lt_size he3;have he4:IsEnum (h3.push {cls:=.type "tuple",data:=.seq #[.int z s.toks,x]}) e it (z+1) old:=Heap.get?_push_of_some _ he3;refine wpAny_bind ?_;unfold Builtin.SmallTypes.ownedTupleIsFree;refine wpAny_bind (wpAny_field he4 rfl (x:=.none) rfl (wpAny_pure ?_));show wpAny _ _ (if (Value.none==Value.none)=true then _ else _) _ _ _;rw[if_pos (by decide)];refine wpAny_bind (wpAny_rule ?_);refine wpAny_bind (wpAny_field he4 rfl (x:=old) rfl ?_);refine wpAny_bind (wpAny_setField_rec he4 (by simp) λh5 he5 hs5=>?_);replace he5:IsEnum h5 e it (z+1) x:=he5;refine wpAny_bind ?_;unfold Builtin.SmallTypes.ownedTupleHandOut;refine wpAny_bind (wpAny_setField_rec he5 (by simp) λh6 he6 hs6=>?_);replace he6:IsEnumOut h6 e it (z+1) x h3.objs.size:=he6;refine wpAny_setField_rec he6 (by simp) λh7 he7 hs7=>?_;replace he7:IsEnumOut h7 e it (z+1) x h3.objs.size:=he7;refine wpAny_bind (wpAny_letGo ?_);have up:∀c o,c≠e->h3.get? c=some o->h7.get? c=some o:=λc o c1 q=>hs7.extBut _ _ c1 (hs6.extBut _ _ c1 (hs5.extBut _ _ c1 (Heap.get?_push_of_some _ q)));have hT:h7.get? h3.objs.size=some {cls:=.type "tuple",data:=.seq #[.int z s.toks,x]}:=hs7.extBut _ _ (Nat.ne_of_gt hlt) (hs6.extBut _ _ (Nat.ne_of_gt hlt) (hs5.extBut _ _ (Nat.ne_of_gt hlt) (Heap.get?_push_size _ rfl)));have hz:h7.objs.size=h3.objs.size+1:=by rw[hs7.1,hs6.1,hs5.1,Heap.size_push]
 refine wpAny_pure ⟨_,rfl,?_⟩;show Q (.ref h3.objs.size) _;rw[hsz]at hT hz he7⊢;refine hQ h7 s.toks (s.toks+1) he7 ((((it1.extBut hs2.extBut ne.symm).extBut hs3.extBut ne.symm)).at λo q=>up it o ne.symm q) hT hz λb o b1 b2 q=>up b o b1 (hs3.extBut _ _ b1 (hs2.extBut _ _ b1 (hs1.extBut _ _ b2 q)))
theorem a6F{k:Bool}{e it l:Addr}{i:Nat}{z:Int}{items:Array Value}{old:Value}{Q:Fin->Shared->Prop}(hh:A.handled=none)(he:IsEnum s.heap e it z old)(hit:ItAt k s.heap it l i)(hl:SqAt k s.heap l items)(hx:items[i]?=none)
  (hE:∀h' x,(∀c o,c≠e->c≠it->s.heap.get? c=some o->h'.get? c=some o)->(∃o,h'.get? x=some o/\o.cls=.type "StopIteration")->E (.ref x) {s with heap:=h'}) :
  wpAny (model prog w) A (Builtin.«enumerate.__next__» ⟨[.ref e],[]⟩) Q E s:=by
 show wpAny _ _ (field (.ref e) 2>>=_) _ _ _;refine wpAny_bind (wpAny_field he rfl (x:=.ref it) rfl ?_);exact wpAny_bind (a2N hh hit hl hx λh1 x hs1 hx1=>hE h1 x (λc o _ c2 q=>hs1 _ _ c2 q) hx1)
theorem a1b(a v:Value):checkTypeCall "enumerate" ⟨[a],[(Str.ofString "start",v)]⟩=pure ():=by kernel_rfl
theorem a2b(a v:Value):checkBuiltinCall "enumerate.__new__" ⟨[.type "enumerate",a],[(Str.ofString "start",v)]⟩=pure ():=by kernel_rfl
theorem a5e(a b v:Value):argsOk "object.__init__" ⟨[a,b],[(Str.ofString "start",v)]⟩:=by unfold argsOk;kernel_rfl
theorem a4W{k:Bool}{l:Addr}{xs:Array Value}{t:Tok}{Q:Value->Shared->Prop}(hl1:SqAt k s.heap l xs)
  (h:∀h',IsEnum h' (s.heap.objs.size+1) s.heap.objs.size 1 .none->ItAt k h' s.heap.objs.size l 0->h'.objs.size=s.heap.objs.size+2->(∀c o,s.heap.get? c=some o->h'.get? c=some o)->Q (.ref (s.heap.objs.size+1)) {s with heap:=h'}) :
  wpAny (model prog w) A (call (.type "enumerate") [.ref l] [(Str.ofString "start",.int 1 t)]) Q E s:=by
 refine a4v F.called_enumerate (by decide) (a1b _ _) (a2b _ _) (λobj=>a5e obj _ _) F.entry_enumerate_new (a6E (k:=k) l xs t) ⟨hl1,?_⟩;have z1:(s.heap.push (O2 k l)).objs.size=s.heap.objs.size+1:=Heap.size_push ..;have g2:((s.heap.push (O2 k l)).push {cls:=.type "enumerate",data:=.fields #[.none,.bool false,.ref s.heap.objs.size,rawInt 1,.none,.none]}).get? (s.heap.push (O2 k l)).objs.size=some _:=Heap.get?_push_size _ rfl;have g1:((s.heap.push (O2 k l)).push {cls:=.type "enumerate",data:=.fields #[.none,.bool false,.ref s.heap.objs.size,rawInt 1,.none,.none]}).get? s.heap.objs.size=some (O2 k l):=Heap.get?_push_of_some _ (Heap.get?_push_size _ rfl);show _/\_;rw[z1]at g2;rw[z1];refine⟨⟨_,g2,rfl⟩,h _ g2 ?_ (by rw[Heap.size_push,z1]) λc o x=>Heap.get?_push_of_some _ (Heap.get?_push_of_some _ x)⟩;cases k<;>exact⟨_,g1,rfl,rfl⟩
end
def It1(K:PySem.W.Frag)(k:Bool)(a:Addr):It :=
 ⟨λi H=>∃xs x,SqK k K H a xs/\xs[i]?=some x,
  λi H v H'=>∃p x,v=.ref p/\H p=none/\H'=upd H p (.tup [.int (1+i),x])/\∀xs,SqK k K H a xs->xs[i]?=some x,
  λi H=>∃xs,SqK k K H a xs/\xs.length<=i⟩
structure ETurn1(k:Bool)(e it a:Addr)(i:Nat)(h:Heap):Prop where
 en:∃old,IsEnum h e it (1+(i:Int)) old
 t1:ItAt k h it a i
theorem a4z{P:Program}{w:World}{K:PySem.W.Frag}{es:List Expr}{kt:Nat}{tp:Pos}{k:Bool}{a e it:Addr}(ne:e≠it) :
  Turn P w K (.Tuple es kt tp) (It1 K k a) [e,it] e (λi h=>ETurn1 k e it a i h) where
 mem:=by simp
 obj:=λi h st c hc=>by
  simp only[List.mem_cons,List.not_mem_nil,or_false]at hc;rcases hc with rfl|rfl
  .obtain⟨old,q⟩:=st.en;exact⟨_,q,λv z=>by cases z⟩
  .obtain⟨o,e,d⟩:=st.t1.get;exact⟨o,e,λv z=>by rw[d]at z;cases z⟩
 keep:=λi h h' st k=>⟨let ⟨old,q⟩:=st.en;⟨old,k e (by simp) _ q⟩,st.t1.at λo q=>k it (by simp) o q⟩
 item:=by
  intro X hP hw hK hc i pins s σ H E I hf st hg;subst hP hw hK;obtain⟨xs,x,hx1,hx⟩:=hg;obtain⟨us,ru,pu,zu⟩:=I.sqk hx1;obtain⟨u,hu,rux⟩:=ru.get hx;obtain⟨old,hen⟩:=st.en;have hT:s.TypeIs (.ref e) "enumerate":=⟨_,hen,rfl⟩;unfold pyNext;refine wpAny_bind (wpAny_attempt (wpAny_callSpecial?_slot (name:=Str.ofString "__next__") hT F.slot_enumerate_next
   (wpAny_call_entry F.slot_enumerate_next hT F.entry_enumerate_next
    (a4V hen st.t1 pu (x:=u) (by simpa using hu) ne λh' t tk a1 a2 a3 a4 a5=>wpAny_pure ?_) (F.args_enumerate_next_1 _))))
  refine⟨_,rfl,?_⟩;refine wpAny_letOwnedTupleGo_enum (s:={s with heap:=h',toks:=tk}) a1 λh2 he2 hs2=>?_;have nes:∀c∈[e,it],c≠s.heap.objs.size:=λc hc q=>by
   have:∃o,s.heap.get? c=some o:=by
    simp only[List.mem_cons,List.not_mem_nil,or_false]at hc;rcases hc with rfl|rfl
    .exact⟨_,hen⟩
    .obtain⟨o,e,d⟩:=st.t1.get;exact⟨o,e⟩
   obtain⟨o,z⟩:=this;exact absurd (Heap.lt_size z) (by rw[q];exact Nat.lt_irrefl _)
  have hfree:H s.heap.objs.size=none:=I.hok.fresh (Nat.le_refl _);have pr2:=hs2.extBut _ _ (nes e (by simp)).symm a3;have kk:∀c o,c∉[e,it]->s.heap.get? c=some o->h2.get? c=some o:=λc o hc q=>by
   simp only[List.mem_cons,List.not_mem_nil,or_false,not_or]at hc;exact hs2.extBut _ _ hc.1 (a5 c o hc.1 hc.2 q)
  have I2:Inv X pins σ (upd H s.heap.objs.size (.tup [.int (1+i),x])) {s with heap:=h2} :=
   I.turnedT (ch:=[e,it]) hf rfl kk ⟨by show 2<=sizeLine;decide,[.int (1+i) t,u],.cons ⟨t,rfl⟩ (.cons rux .nil),⟨_,pr2,rfl,0,rfl⟩⟩
  have I3:=I2.tok tk;refine⟨.ref s.heap.objs.size,_,I3,rfl,⟨_,x,rfl,hfree,rfl,λzs hz=>?_⟩,⟨⟨_,(show(1:Int)+((i+1:Nat):Int)=1+i+1 by omega) ▸ he2⟩,a2.extBut hs2.extBut ne.symm⟩,λc hc=>?_⟩
  .rw[I.sqk_inj hz hx1];exact hx
  .rw[A6 (nes c hc)];exact(hf c hc).1
 done:=by
  intro X hP hw hK hc i pins s σ H E I hf st hg;subst hP hw hK;obtain⟨xs,hx1,hend⟩:=hg;obtain⟨us,ru,pu,zu⟩:=I.sqk hx1;have l1:=ru.length;obtain⟨old,hen⟩:=st.en;have hT:s.TypeIs (.ref e) "enumerate":=⟨_,hen,rfl⟩;unfold pyNext;refine wpAny_bind (wpAny_attempt (wpAny_callSpecial?_slot (name:=Str.ofString "__next__") hT F.slot_enumerate_next
   (wpAny_call_entry F.slot_enumerate_next hT F.entry_enumerate_next (a6F (I.ok.hd hc) hen st.t1 pu (by simp;omega) λh' x hk hx=>?_) (F.args_enumerate_next_1 _))))
  obtain⟨o,ho,hc⟩:=hx;refine wpAny_bind (wpAny_isInstance (T:="StopIteration") (b:=true) ⟨o,ho,hc⟩ isSubtype_stop ?_);refine wpAny_pure ⟨rfl,I.turnedL (ch:=[e,it]) hf λc o hc q=>?_⟩;simp only[List.mem_cons,List.not_mem_nil,or_false,not_or]at hc;exact hk c o hc.1 hc.2 q
 self:=λA i s Q E st h=>let ⟨_,q⟩:=st.en;wpAny_pyIter_enum q h
def b3o(K:PySem.W.Frag)(ta:TA):TI:=λσ H R=>ta σ H λvs H1=>∃k a,vs=[.ref a]/\(∃xs,SqK k K H1 a xs)/\R (It1 K k a) H1
section
variable {M:Model}{A:Around}{E:Value->Shared->Prop}{s:Shared}{env:Env}
theorem a1O{pos:Pos}{T:String}{e:Expr}{rest:List Expr}{kws:List Keyword}{Q:Value->Shared->Prop}
  (h:wpAny M A (spliced (backTo pos (starEach (e::rest) env))) (λvs s₁=>wpAny M A (evalAll ((backToKw pos (keywordEach kws env)).map (·.2))) (λkvs s₂=>wpAny M A (call (.type T) vs (((backToKw pos (keywordEach kws env)).filterMap (·.1)).zip kvs)) Q E s₂) E s₁) E s)
  (he:backTo pos (starEach (e::rest) env)=(false,eval e env)::backTo pos (starEach rest env):=by rfl)
  (hp:(backTo pos (starEach (e::rest) env)).any (·.1)=false:=by rfl) (ha:(backToKw pos (keywordEach kws env)).all (·.1.isSome)=true:=by rfl) (hk:(backToKw pos (keywordEach kws env)).any (·.1.isNone)=false:=by rfl) :
  wpAny M A (callWith pos (.type T) [] (backTo pos (starEach (e::rest) env)) (backToKw pos (keywordEach kws env))) Q E s:=by
 have h2:wpAny M A (evalArgs (.type T) true (backTo pos (starEach (e::rest) env)) (backToKw pos (keywordEach kws env))) (λa s₁=>wpAny M A (call (.type T) ([]++a.pos) a.kw) Q E s₁) E s:=by
  rw[he]at h⊢;exact evalArgs_kwB ha h
 unfold callWith;refine wpAny_bind (wpAny_holding (wpAny_mono h2 (λa s₁ h₁=>wpAny_bind (wpAny_standAt ?_)) λ_ _ x=>x));simp only[hp,hk,Bool.or_false];refine wpAny_bind (wpAny_pure ?_);exact wpAny_bind (wpAny_mono h₁ (λr s₂ hr=>wpAny_bind (wpAny_holding (wpAny_point (wpAny_pure hr)))) λ_ _ x=>x)
end
section
variable {X:Cx}
theorem a8y(K:PySem.W.Frag){es:List Expr}{kt:Nat}{tp:Pos}{a:Expr}{ta:TA}{p pos kp np:Pos}{nk:Nat}(hg:Gl X "enumerate")(hm:X.mg "enumerate"=none)(ha:JA X [a] ta)(hK:X.K=K:=by rfl)
  (he:backTo pos (starEach [a] X.env)=(false,eval a X.env)::backTo pos (starEach [] X.env):=by rfl) (hpl:(backTo pos (starEach [a] X.env)).any (·.1)=false:=by rfl) :
  JI X (.Tuple es kt tp) (.Call (.Name "enumerate" p) [a] [⟨some "start",.Constant (.int 1) nk np,kp⟩] pos) (b3o K ta):=by
 subst hK;refine⟨λpins s σ H R I h=>?_⟩;refine wpAny_Call_Name_kw (a0q I hg hm a3w ?_ (by decide) (by decide));refine a1O (thn (ha.h pos pins s σ H _ I h) λus s1 ⟨vs,H1,I1,r1,q1⟩=>?_) he hpl;refine kws_cons (wpAny_Constant_int (kws_nil ?_));obtain⟨k,l1,rfl,⟨xs,hx⟩,q⟩:=q1;obtain⟨u,rfl,ru⟩:=r1.one;cases ru;have I2:=I1.tok (s1.toks+1);obtain⟨us,ru,pu,zu⟩:=I2.sqk hx;refine a4W pu λh' z1 z2 z3 z4=>?_;refine wpAny_pyIter_enum (s:={s1 with heap:=h',toks:=s1.toks+1}) z1 ?_;refine⟨s1.heap.objs.size+1,[s1.heap.objs.size+1,s1.heap.objs.size],_,_,H1,rfl,I2.kept (t':=s1.toks+1) z4,a4z (nne (by omega)),⟨⟨_,z1⟩,z2⟩,λc hc=>?_,q⟩;have hle:s1.heap.objs.size<=c:=by
  simp only[List.mem_cons,List.not_mem_nil,or_false]at hc;rcases hc with rfl|rfl
  .exact Nat.le_add_right _ _
  .exact Nat.le_refl _
 exact I2.fpOk hle (I2.hok.fresh hle)
end
theorem a6A{K:PySem.W.Frag}{k:Bool}{a:Addr}{xs:List V}{g:TG}{tb:TS}{D:Ends}{σ:St}{H:Hp}(Pv:Nat->St->Hp->Prop)(h0:Pv 0 σ H)
  (hl:∀i σ H,i<=xs.length->Pv i σ H->SqK k K H a xs)
  (hs:∀i x σ H p,xs[i]?=some x->Pv i σ H->H p=none->g (.ref p) σ (upd H p (.tup [.int (1+i),x])) λσ2 H2=>tb {D with nx:=Pv (i+1),ct:=Pv (i+1),bk:=D.nx} σ2 H2) (hd:∀σ H,Pv xs.length σ H->D.nx σ H) :
  ∃W:Nat->Nat->St->Hp->Prop,(∃m,W 0 m σ H)/\∀i m σ H,W i m σ H ->
   ((It1 K k a).stop i H/\D.nx σ H)∨((It1 K k a).go i H/\∃N:St->Hp->Prop,(∀σ' H',N σ' H'->∃m',m'<m/\W (i+1) m' σ' H')/\∀x H',(It1 K k a).yld i H x H'->g x σ H' λσ2 H2=>tb {D with nx:=N,ct:=N,bk:=D.nx} σ2 H2):=by
 refine⟨λi m σ H=>m=xs.length-i/\i<=xs.length/\Pv i σ H,⟨_,rfl,Nat.zero_le _,h0⟩,?_⟩;rintro i m σ H ⟨rfl,hi,p⟩;have q1:=hl i σ H hi p;by_cases hlt:i<xs.length
 .refine .inr ⟨⟨xs,xs[i],q1,List.getElem?_eq_getElem hlt⟩,Pv (i+1),λσ' H' p'=>⟨_,by omega,rfl,hlt,p'⟩,λx H' y=>?_⟩;obtain⟨pp,x',e,e2,e3,y1⟩:=y;subst e e3;exact hs i x' σ _ pp (y1 xs q1) p e2
 .have e:i=xs.length:=by omega
  subst e;exact .inl ⟨⟨xs,q1,Nat.le_refl _⟩,hd σ H p⟩
def b4q:R2:=λx y H Q=>∃(c:Nat) (z:Str),x=.str ⟨#[c]⟩/\y=.str z/\Q (.bl (decide (c∈z.cps.toList))) H
def b4m:RL:=λxs H Q=>∃z:Str,xs=[.str z]/\z.length<=sizeLine/\Q (.int z.length) H
def b1C(i j:Int):Prop:=0<j/\j<10 ^ 100
section
variable {X:Cx}{a b c e o i:Expr}{ta tb tc td ty te tv:TE}{t:TA}{p pos:Pos}
theorem b2E:OpR X (compareOp .In) b4q:=by
 intro pins s σ H x y v u Q I rx ry h;obtain⟨c,z,rfl,rfl,q⟩:=h;obtain⟨t,rfl⟩:=rx;obtain⟨t',rfl⟩:=ry;refine PySem.P.in_str ?_;rw[StrLaws.found_one];exact⟨.bl _,H,I,rfl,q⟩
theorem a8v(ha:JE X a ta)(hb:JE X b tb)(hm:behindInMarks .In b=false):JE X (.Compare a [.In] [b] pos) (tOp b4q ta tb):=⟨V8 b2E ha.h hb.h hm⟩
theorem a3g(hg:Gl X "len")(hm:X.mg "len"=none)(ha:JA X [e] t)(he:starEach [e] X.env=(false,eval e X.env)::starEach [] X.env:=by rfl)(hpl:(backTo pos (starEach [] X.env)).any (·.1)=false:=by rfl):JE X (.Call (.Name "len" p) [e] [] pos) (tCB b4m t):=⟨L4 a3u hg hm a5c ha.h (by decide) (by decide) he hpl⟩
theorem b1t(ha:JE X a ta)(hb:JE X b tb)(hs:a0Y b:=by intro _ _;rfl):JE X (.Subscript a b pos) (tOp b4o ta tb):=⟨a7U b3h ha.h hb.h hs⟩
theorem b0l(ha:JE X a ta)(hb:JE X b tb)(hc:JE X c tc)(hm:lastMarks [.LtE,.LtE] [b,c]=false:=by with_unfolding_all rfl):JT X (.Compare a [.LtE,.LtE] [b,c] pos) (J7 (a2L (rI0 λi j=>.bl (decide (i<=j))) (rI0 λi j=>.bl (decide (i<=j))) ta tb tc)):=⟨a7E a3L a3L ha.h hb.h hc.h hm⟩
theorem a8d:OpR X (binaryOp .FloorDiv) (rI b1C λi j=>.int (i / j)):=opI λi j _ _ _ _ _ hc q=>by
 have h1:(0:Int)<j:=hc.1;have h2:j<10 ^ 100:=hc.2;refine floordiv_int (by omega) (by rw[Int.fdiv_eq_ediv_of_nonneg i (by omega)];exact q) (.inl (PyProof.noPylong_of_log2 ?_));refine(Nat.log2_lt (by omega)).mpr ?_;have h3:j.natAbs<10 ^ 100:=by omega
 exact Nat.lt_trans h3 (by decide +kernel)
theorem b0s(ha:JE X a ta)(hb:JE X b tb):JE X (.BinOp a .FloorDiv b pos) (tOp (rI b1C λi j=>.int (i / j)) ta tb):=⟨U3 a8d ha.h hb.h⟩
theorem R4(hu:X.A.units+60<cLine)(ho:JE X o td)(hi:JE X i ty)(hs:b3H i:=by intro _ _;rfl):JE X (.Subscript o i pos) (b0N td ty):=⟨a9S (by omega) ho.h hi.h hs⟩
end
structure JPs(X:Cx)(pos:Pos)(keys:List (Option Expr))(values:List Expr)(trs:List (TE×TE)):Prop where
 h:PPs X pos keys values trs
section
variable {X:Cx}{pos:Pos}{k v:Expr}{ks:List (Option Expr)}{vs:List Expr}{tk tv:TE}{trs:List (TE×TE)}
theorem b2Z:JPs X pos [] [] []:=⟨a9z⟩
theorem a0S(hk:JE X k tk)(hv:JE X v tv)(hr:JPs X pos ks vs trs):JPs X pos (some k::ks) (v::vs) ((tk,tv)::trs):=⟨a7J hk.h hv.h hr.h⟩
theorem b3f(h:JPs X pos (some k::ks) (v::vs) trs)(hall:(some k::ks).all (·.isSome)=true:=by rfl)(hl:(some k::ks).length=(v::vs).length:=by rfl)(h15:(some k::ks).length<=15:=by decide):JE X (.Dict (some k::ks) (v::vs) pos) (b0M trs):=⟨a9R h.h hall hl (by intro z;cases z) h15⟩
end
abbrev TF:=St->Hp->Str->(Str->Hp->Prop)->Prop
def b4N:TF:=λ_ H acc Q=>Q acc H
def b3p(te:TE)(t:TF):TF:=λσ H acc Q=>te σ H λv H1=>∃x,v=.str x/\(acc++x).length<=sizeLine/\t σ H1 (acc++x) Q
def b3q(te:TE)(t:TF):TF:=λσ H acc Q=>te σ H λv H1=>(∃x,v=.str x/\x.length<=sizeLine/\(acc++x).length<=sizeLine/\t σ H1 (acc++x) Q)∨∃n:Nat,v=.int n/\n<10 ^ 570/\(acc++C6 n).length<=sizeLine/\t σ H1 (acc++C6 n) Q
def tFs(t:TF):TE:=λσ H Q=>t σ H Str.empty λx H1=>x.length<=sizeLine/\Q (.str x) H1
structure JFs(X:Cx)(es:List Expr)(t:TF):Prop where
 h:∀(pins:List (Addr×Obj)) (s:Shared) (σ:St) (H:Hp) (acc:Str) (Q:Str->Hp->Prop),Inv X pins σ H s->t σ H acc Q->Joins (model X.prog X.w) X.A X.xe (evalEach es X.env) acc (λx s1=>∃H1,Inv X pins σ H1 s1/\Q x H1) s
section
variable {X:Cx}{e e1 e2:Expr}{es:List Expr}{te:TE}{t:TF}{pos:Pos}
theorem Z9:JFs X [] b4N:=⟨λpins s σ H acc Q I h=>⟨H,I,h⟩⟩
theorem N4(he:JE X e te)(ht:JFs X es t):JFs X (e::es) (b3p te t):=⟨λpins s σ H acc Q I h=>by
 show wpAny _ _ (eval e X.env) _ _ s;refine thn (he.h pins s σ H _ I h) λv s1 ⟨x,H1,I1,r1,y,hy,hl,q⟩=>?_;subst hy;obtain⟨tk,rfl⟩:=r1;exact⟨y,tk,rfl,hl,ht.h pins s1 σ H1 _ Q I1 q⟩⟩
theorem K3(he:JE X e te)(ht:JFs X es t):JFs X (.FormattedValue e (-1) none pos::es) (b3q te t):=⟨λpins s σ H acc Q I h=>by
 show wpAny _ _ (eval (.FormattedValue e (-1) none pos) X.env) _ _ s;refine wpAny_FormattedValue_plain (thn (he.h pins s σ H _ I h) λv s1 ⟨x,H1,I1,r1,q⟩=>?_);rcases q with⟨y,rfl,hy,hl,q⟩|⟨n,rfl,hn,hl,q⟩
 .obtain⟨tk,rfl⟩:=r1;exact wpAny_formatField_str ⟨y,tk,rfl,hl,ht.h pins s1 σ H1 _ Q I1 q⟩ ⟨y,_,rfl,hl,ht.h pins _ σ H1 _ Q (I1.tok _) q⟩ hy
 .obtain⟨tk,rfl⟩:=r1;refine wpAny_formatField_int ?_ ⟨_,_,rfl,hl,ht.h pins _ σ H1 _ Q (I1.tok _) q⟩;by_cases h0:n=0
  .subst h0;decide
  .exact(Nat.log2_lt (show(n:Int).natAbs≠0 by omega)).mpr (by rw[Int.natAbs_natCast];exact Nat.lt_trans hn (by decide +kernel))⟩
theorem a4a{M:Model}{A:Around}{E:Value->Shared->Prop}{Q Q':Str->Shared->Prop}:∀(ps:List (Sem Value)) (acc:Str) (s:Shared),Joins M A E ps acc Q s->(∀x s1,Q x s1->Q' x s1)->Joins M A E ps acc Q' s
 |[],_,_,h,k=>k _ _ h
 |_::ps,_,_,h,k=>thn h λ_ s1 ⟨y,tk,e,hl,q⟩=>⟨y,tk,e,hl,a4a ps _ s1 q k⟩
theorem a8B(h:JFs X (e1::e2::es) t):JE X (.JoinedStr (e1::e2::es) pos) (tFs t):=⟨λpins s σ H Q I q=>by
 refine wpAny_JoinedStr ?_;exact a4a _ _ _ (h.h pins s σ H Str.empty _ I q) λx s1 ⟨H1,I1,hl,q1⟩=>⟨hl,.str x,H1,I1.tok _,⟨_,rfl⟩,q1⟩⟩
end
section
variable {X:Cx}{a b c:Expr}{ta tb tc:TE}{pos:Pos}
theorem b0k(ha:JE X a ta)(hb:JE X b tb)(hc:JE X c tc)(hm:lastMarks [.LtE,.LtE] [b,c]=false:=by with_unfolding_all rfl):JE X (.Compare a [.LtE,.LtE] [b,c] pos) (a2L (rI0 λi j=>.bl (decide (i<=j))) (rI0 λi j=>.bl (decide (i<=j))) ta tb tc):=⟨a7Z a3L a3L ha.h hb.h hc.h hm⟩
end
def a7B:V->List V->Hp->VK->Prop:=λx vs H Q=>∃(l:Addr) (xs:List V) (y:V),x=.ref l/\vs=[y]/\H l=some (.lst xs)/\I0 y=true/\xs.all I0=true/\Q (.int (xs.countP λz=>eqV z y)) H
def a5n:V->List V->Hp->VK->Prop:=λx vs H Q=>∃(l:Addr) (xs:List V) (y:V) (k:Nat),x=.ref l/\vs=[y]/\H l=some (.lst xs)/\I0 y=true/\xs.all I0=true/\k<xs.length/\(∀z,xs[k]?=some z->eqV z y=true)/\(∀j z,j<k->xs[j]?=some z->eqV z y=false)/\Q (.int k) H
section
variable {X:Cx}
def bkV:Value->V
 |.none=>.non
 |.bool b=>.bl b
 |.int i _=>.int i
 |.str x _=>.str x
 |_=>.non
theorem b1B:∀{x:V}{v:Value},I0 x=true->RelV x v->bkV v=x
 |.non,_,_,h=>by cases h;rfl
 |.bl b,_,_,h=>by cases h;rfl
 |.int i,_,_,h=>by obtain⟨_,rfl⟩:=h;rfl
 |.str i,_,_,h=>by obtain⟨_,rfl⟩:=h;rfl
theorem a5L{xs:List V}{its:List Value}(r:Vals xs its)(hf:xs.all I0=true)(y:V){u:Value}(fy:I0 y=true)(ry:RelV y u):∃e:Value->Bool,(∀(j:Nat) x v,xs[j]?=some x->its[j]?=some v->e v=eqV x y):=by
 classical
 refine⟨λv=>decide (∃x,I0 x=true/\RelV x v/\eqV x y=true),λj x v hx hv=>?_⟩;obtain⟨v',hv',rv⟩:=r.get hx;rw[hv]at hv';cases hv';have fx:I0 x=true:=List.all_eq_true.mp hf x (List.mem_of_getElem? hx);cases e:eqV x y with
 |true=>exact decide_eq_true ⟨x,fx,rv,e⟩
 |false =>
  refine decide_eq_false ?_;rintro⟨x',fx',rx',e'⟩;have:x'=x:=by rw[<-b1B fx rv,b1B fx' rx']
  rw[this,e]at e';cases e'
theorem a8r(hu:X.A.units+60<cLine):MtM X "list.count" a7B:=by
 intro pins s σ H x vs v us Q I rx rv h;obtain⟨l,xs,y,rfl,rfl,hH,fy,fs,q⟩:=h;cases rx;obtain⟨u,rfl,ru⟩:=rv.one;obtain⟨z,its,n,r,hl,e⟩:=I.lstM hH;obtain⟨ev,hev⟩:=a5L r fs y fy ru;refine call_meets F.slot_list_count ⟨_,e,rfl⟩ F.entry_list_count (F.args_list_count_2 _ _) (SeqAt.list_countAt l its.toArray n _ _ u ev) ⟨e,λw hw=>?_,.int (xs.countP λz=>eqV z y),H,I.tok _,?_,q⟩
 .obtain⟨j,hj⟩:=List.mem_iff_getElem?.mp (show w∈its by simpa using hw);have hjl:j<xs.length:=by rw[hl];exact(List.getElem?_eq_some_iff.mp hj).1
  have hx:=List.getElem?_eq_getElem hjl;obtain⟨w',hw',rw'⟩:=r.get hx;rw[hj]at hw';cases hw';rw[hev j _ _ hx hj];exact EqV.at (n:=0) I (.flat (List.all_eq_true.mp fs _ (List.getElem_mem hjl)) fy) (by show X.A.units+1+0<cLine;omega) rw' ru
 .have:List.countP ev its=List.countP (λz=>eqV z y) xs:=by
   clear q e hH;have key:∀(xs:List V) (its:List Value),Vals xs its->(∀(j:Nat) x v,xs[j]?=some x->its[j]?=some v->ev v=eqV x y)->List.countP ev its=List.countP (λz=>eqV z y) xs:=by
    intro xs its r;induction r with
    |nil=>intro _;rfl
    |cons r1 _ ih =>
     intro h;rw[List.countP_cons,List.countP_cons,ih λj x v hx hv=>h (j+1) x v hx hv,h 0 _ _ rfl rfl]
   exact key xs its r hev
  refine⟨s.toks,?_⟩;rw[show(its.toArray.toList)=its by simp,this]
theorem a6k(hu:X.A.units+60<cLine):MtM X "list.index" a5n:=by
 intro pins s σ H x vs v us Q I rx rv h;obtain⟨l,xs,y,k,rfl,rfl,hH,fy,fs,hk,hk1,hk2,q⟩:=h;cases rx;obtain⟨u,rfl,ru⟩:=rv.one;obtain⟨z,its,n,r,hl,e⟩:=I.lstM hH;obtain⟨ev,hev⟩:=a5L r fs y fy ru;have hki:k<its.toArray.size:=by rw[List.size_toArray,<-hl];exact hk
 refine call_meets F.slot_list_index ⟨_,e,rfl⟩ F.entry_list_index (F.args_list_index_2 _ _) (SeqAt.list_indexAt l its.toArray n _ _ u ev k hki (by have:=z;rw[sizeLine_eq]at this;omega) ?_ ?_) ⟨e,λw hw=>?_,.int k,H,I.tok _,⟨_,rfl⟩,q⟩
 .have hx:=List.getElem?_eq_getElem hk;rw[hev k _ _ hx (by simpa using hki)];exact hk1 _ hx
 .intro m hm hmk;have hml:m<xs.length:=by omega
  have hx:=List.getElem?_eq_getElem hml;rw[hev m _ _ hx (by simpa using hm)];exact hk2 m _ hmk hx
 .obtain⟨j,hj⟩:=List.mem_iff_getElem?.mp (show w∈its by simpa using hw);have hjl:j<xs.length:=by rw[hl];exact(List.getElem?_eq_some_iff.mp hj).1
  have hx:=List.getElem?_eq_getElem hjl;obtain⟨w',hw',rw'⟩:=r.get hx;rw[hj]at hw';cases hw';rw[hev j _ _ hx hj];exact EqV.at (n:=0) I (.flat (List.all_eq_true.mp fs _ (List.getElem_mem hjl)) fy) (by show X.A.units+1+0<cLine;omega) rw' ru
variable {o e:Expr}{es:List Expr}{to:TE}{t:TA}{apos cpos:Pos}
theorem a8x(K:PySem.W.Frag)(hu:X.A.units+60<cLine)(ho:JE X o to)(ha:JA X (e::es) t)(hK:X.K=K:=by rfl)(hbase:attributeBase o "count" X.env (eval o X.env)=eval o X.env:=by rfl)
  (hfew:((backTo cpos (starEach (e::es) X.env)).all (λx=>!x.1) && (backToKw cpos (keywordEach [] X.env)).all (λx=>x.1.isSome) && decide ((e::es).length+([]:List Keyword).length+(if ([]:List Keyword).isEmpty then 0 else 1)<30))=true:=by rfl)
  (hline:(apos.endLine==cpos.line)=true:=by rfl) (hs:starEach (e::es) X.env=(false,eval e X.env)::starEach es X.env:=by rfl) (hplain:(backTo cpos (starEach es X.env)).any (·.1)=false:=by rfl) :
  JE X (.Call (.Attribute o "count" apos) (e::es) [] cpos) (tBM K "list" a7B to t):=⟨U4 K PySem.F.plainAttrs_list PySem.F.slot_list_count PySem.F.type_list_count (a8r hu) ho.h ha.h hK hbase hfew hline hs hplain⟩
theorem a6u(K:PySem.W.Frag)(hu:X.A.units+60<cLine)(ho:JE X o to)(ha:JA X (e::es) t)(hK:X.K=K:=by rfl)(hbase:attributeBase o "index" X.env (eval o X.env)=eval o X.env:=by rfl)
  (hfew:((backTo cpos (starEach (e::es) X.env)).all (λx=>!x.1) && (backToKw cpos (keywordEach [] X.env)).all (λx=>x.1.isSome) && decide ((e::es).length+([]:List Keyword).length+(if ([]:List Keyword).isEmpty then 0 else 1)<30))=true:=by rfl)
  (hline:(apos.endLine==cpos.line)=true:=by rfl) (hs:starEach (e::es) X.env=(false,eval e X.env)::starEach es X.env:=by rfl) (hplain:(backTo cpos (starEach es X.env)).any (·.1)=false:=by rfl) :
  JE X (.Call (.Attribute o "index" apos) (e::es) [] cpos) (tBM K "list" a5n to t):=⟨U4 K PySem.F.plainAttrs_list PySem.F.slot_list_index PySem.F.type_list_index (a6k hu) ho.h ha.h hK hbase hfew hline hs hplain⟩
theorem a5B{pos:Pos}:JE X (.Dict [] [] pos) a7h:=⟨a7W⟩
theorem b0u{apos cpos:Pos}{td ty:TE}(hu:X.A.units+60<cLine)(ho:JE X o td)(he:JE X e ty)(m:M1 X o "get" apos e cpos:=by exact⟨rfl,rfl,rfl,rfl⟩):JE X (.Call (.Attribute o "get" apos) [e] [] cpos) (a7j td ty):=⟨a7Y (by omega) ho.h he.h m⟩
theorem b0t{f:Expr}{apos cpos:Pos}{td ty tx:TE}(hu:X.A.units+60<cLine)(ho:JE X o td)(he:JE X e ty)(hf:JE X f tx)(m:M2 X o "get" apos e f cpos:=by exact⟨rfl,rfl,rfl,rfl⟩):JE X (.Call (.Attribute o "get" apos) [e,f] [] cpos) (a7i td ty tx):=⟨a7X (by omega) ho.h he.h hf.h m⟩
end
end L2
namespace L2
namespace TabS
open PySem L2.Tab
structure CameS(rows:Nat->Str)(i:Nat)(D:List Str):Prop where
 nd:D.Nodup
 mem:∀x,x∈D↔∃j,j<i/\x=rows j
 le:D.length<=i
abbrev SetS(prog:Program)(w:World)(h:Heap)(a:Addr)(D:List Str):Prop:=h.SetOf (strKind prog w) a (λk=>decide (k∈D)) D.length
section
variable {prog:Program}{w:World}{A:Around}{R:Result->Shared->Prop}{I:Addr}{fp wr:List Addr}{G:Array GenState->Array GenState->Prop}{n:Nat}{P:Nat->Value->Prop}{St:Nat->Shared->Prop}
theorem b4Y{S:Addr}{D:List Str}{x:Str}{t:Tok}{s:Shared}{E:Value->Shared->Prop}{Q:Bool->Shared->Prop}(hS:SetS prog w s.heap S D)(hn:D.length+1<scanBound)
  (h:∀h' c,Heap.SameBut S s.heap h'->SetS prog w h' S (if x∈D then D else x::D)->Q c {s with heap:=h',toks:=s.toks+1}):wpAny (model prog w) A (setAdd S (.str x t)) Q E s:=by
 unfold setAdd;have hi:(strKind prog w).is x (.str x t)=true:=by show Value.isStrOf x (.str x t)=true;simp[Value.isStrOf]
 refine wpAny_holding (wpAny_bind ((strKind prog w).pyHash hi ?_));refine wpAny_setAddHashed_of (s:={s with toks:=s.toks+1}) hi rfl hS hn λh' hb hS'=>h h' _ hb ?_;by_cases c:x∈D
 .rw[if_pos c];refine PyProof.Rows.SetOf_congr hS' (λk=>?_) (by simp[c]);by_cases e:k=x
  .subst e;simp[c]
  .simp[e]
 .rw[if_neg c];refine PyProof.Rows.SetOf_congr hS' (λk=>?_) (by simp[c]);by_cases e:k=x
  .subst e;simp
  .simp[e]
theorem a6K{rows:Nat->Str}{i:Nat}{D:List Str}(h:CameS rows i D):CameS rows (i+1) (if rows i∈D then D else rows i::D):=by
 by_cases c:rows i∈D
 .rw[if_pos c];refine⟨h.nd,λx=>⟨λhx=>?_,λ⟨j,hj,e⟩=>?_⟩,by have:=h.le;omega⟩
  .obtain⟨j,hj,e⟩:=(h.mem x).mp hx;exact⟨j,by omega,e⟩
  .by_cases q:j=i
   .subst q;rw[e];exact c
   .exact(h.mem x).mpr ⟨j,by omega,e⟩
 .rw[if_neg c];refine⟨List.nodup_cons.mpr ⟨c,h.nd⟩,λx=>⟨λhx=>?_,λ⟨j,hj,e⟩=>?_⟩,by have:=h.le;rw[List.length_cons];omega⟩
  .rcases List.mem_cons.mp hx with z|z
   .exact⟨i,by omega,z⟩
   .obtain⟨j,hj,e⟩:=(h.mem x).mp z;exact⟨j,by omega,e⟩
  .by_cases q:j=i
   .subst q;rw[e];exact List.mem_cons_self
   .exact List.mem_cons_of_mem _ ((h.mem x).mpr ⟨j,by omega,e⟩)
theorem setS_at{h h':Heap}{a:Addr}{D:List Str}(x:SetS prog w h a D)(k:∀o,h.get? a=some o->h'.get? a=some o):SetS prog w h' a D:=by
 obtain⟨o,es,ep,t,e1,e2⟩:=x;exact⟨o,es,ep,t,k o e1,e2⟩
theorem a5W(W:WalksS prog w A.in1 I fp wr G n P St)(S:Addr)(hSf:S∉fp)(rows:Nat->Str)
  (hval:∀i v,i<n->P i v->∃t,v=.str (rows i) t) (hn:n+1<scanBound) :
  ∀(k i:Nat) (s:Shared) (D:List Str),n-i=k->i<=n->St i s->SetS prog w s.heap S D->CameS rows i D ->
   (∀s' D',Moved (S::wr) G s s'->SetS prog w s'.heap S D'->CameS rows n D'->R (.ok (.ret .none)) s') ->
   codeAny (model prog w) A (.builtin "set.update.loop" ⟨[.ref S,.ref I],[]⟩) R s:=by
 have hSw:S∉wr:=λh=>hSf (W.sub _ h);have hsub:∀b∈wr,b∈S::wr:=λb hb=>List.mem_cons_of_mem _ hb;intro k;induction k with
 |zero =>
  intro i s D hk hi hst hS hC hR;have hin:i=n:=by omega
  subst hin;refine codeAny_builtin PyProof.Rows.F.entry_set_update_loop ?_;rw[Around.under_plainId PyProof.Rows.F.plain_set_update_loop _];show wpAny _ A.in1 (pyNext (.ref I)>>=_) _ _ s;refine wpAny_bind (W.done s _ _ hst λs' hm=>?_);show wpAny _ A.in1 (ret Value.none) _ _ s';exact wpAny_pure (hR s' D (hm.mono hsub) (setS_at hS λo e=>hm.heap S _ hSw e) hC)
 |succ k ih =>
  intro i s D hk hi hst hS hC hR;have hlt:i<n:=by omega
  refine codeAny_builtin PyProof.Rows.F.entry_set_update_loop ?_;rw[Around.under_plainId PyProof.Rows.F.plain_set_update_loop _];show wpAny _ A.in1 (pyNext (.ref I)>>=_) _ _ s;refine wpAny_bind (W.item i s _ _ hlt hst λv s' hP hst' hm=>?_);obtain⟨tk,rfl⟩:=hval i v hlt hP;have hS':SetS prog w s'.heap S D:=setS_at hS λo e=>hm.heap S _ hSw e;show wpAny _ A.in1 (holding [Value.str (rows i) tk] (setAdd S (.str (rows i) tk))>>=_) _ _ s';refine wpAny_bind (wpAny_holding (b4Y hS' (by have:=hC.le;omega) λh' c hsb hS2=>?_));refine wpAny_pure ⟨plainId_quiet PyProof.Rows.F.plain_set_update_loop _,ih (i+1) _ _ (by omega) hlt (W.frame _ s' _ _ hst' (Nat.le_add_right _ _) λb hb o e=>?_) hS2 (a6K hC) λs'' xs'' hm'' hS'' hC''=>?_⟩
  .rw[hsb.2 b (λh:b=S=>hSf (by rw[<-h];exact hb))];exact e
  .refine hR s'' xs'' (Moved.trans W.gtrans ((hm.mono hsub).then_heap (Nat.le_add_right _ _) λb o hb e=>?_) hm'') hS'' hC'';rw[hsb.2 b (λh:b=S=>hb (by rw[h];exact List.mem_cons_self))];exact e
end
section
variable {prog:Program}{w:World}{A:Around}{E:Value->Shared->Prop}{s:Shared}
theorem b0A{led:Bool}{h:Heap}{a:Addr}(e:h.get? a=some {cls:=.type "set",dict:=none,data:=.set #[] 0 (.fresh 0 0 led)}):SetS prog w h a [] :=
 ⟨_,#[],0,_,e,⟨rfl,rfl,rfl⟩,rfl,(λe h=>nomatch h),(λk=>by simp),(by decide),(by rfl),rfl⟩
theorem call_set_strs{l:Addr}{items:Array Value}{rows:Nat->Str}{Q:Value->Shared->Prop}
  (hh:A.handled=none) (hl:s.heap.IsList l items) (hval:∀i v,i<items.size->items[i]?=some v->∃t,v=.str (rows i) t) (hn:items.size+1<scanBound)
  (h:∀(h':Heap) (tk:Nat) (xs:List Str),SetS prog w h' s.heap.objs.size xs->CameS rows items.size xs ->
   (∀b o,b<s.heap.objs.size->s.heap.get? b=some o->h'.get? b=some o)->Q (.ref s.heap.objs.size) {s with heap:=h',toks:=tk}) :
  wpAny (model prog w) A (call (.type "set") [.ref l]) Q E s:=by
 obtain⟨c,tl,hmro⟩:=PySem.F.called_set.mro;have hmade:=PySem.F.called_set.made;have hsub:=PySem.F.called_set.sub;refine wpAny_call (codeAny_of_tree ?_);show wpAny _ _ (callAny (.type "set") _) _ _ _;refine wpAny_pure ⟨Code.quiet_builtin _ (by decide +kernel),codeAny_builtin PySem.F.entry_type_call ?_⟩;rw[Around.under_plain (weight_type_call_type "set" [.ref l] []) rfl];have h1:=PySem.F.called_set.notType;have h2:=PySem.F.called_set.canCreate;have hct:=PySem.F.typeCall_set_1 (.ref l)
 repeat (any_goals (first|assumption|wp_step))
 refine codeAny_mono (a2d (.ref l) (E:=E) (Q₁:=λobj s₁=>obj=.ref s.heap.objs.size/\s₁={s with heap:=s.heap.push {cls:=.type "set",dict:=none,data:=.set #[] 0 (.fresh 0 0 (!w.params.followText "set-order"))}}) ⟨rfl,rfl⟩) λr s₁ hr=>?_;cases r with
 |error e=>exact hr
 |ok fl =>
  cases fl with
  |ret obj =>
   obtain⟨rfl,rfl⟩:=hr;generalize hld:(!w.params.followText "set-order")=led;have hS:(s.heap.push {cls:=.type "set",dict:=none,data:=.set #[] 0 (.fresh 0 0 led)}).get? s.heap.objs.size=some {cls:=.type "set",dict:=none,data:=.set #[] 0 (.fresh 0 0 led)}:=Heap.get?_push_size _ rfl;have hT:Shared.TypeIs {s with heap:=s.heap.push {cls:=.type "set",dict:=none,data:=.set #[] 0 (.fresh 0 0 led)}} (.ref s.heap.objs.size) "set":=⟨_,hS,rfl⟩;have hli:=PySem.F.called_set.init.lookup;have hbi:=PySem.F.called_set.init.bind (.ref s.heap.objs.size)
   repeat (any_goals (first|assumption|wp_step))
   refine codeAny_mono (codeAny_call_builtin (R:=wants (λr s₂=>r=.none/\∃h' tk xs,s₂={s with heap:=h',toks:=tk}/\SetS prog w h' s.heap.objs.size xs/\CameS rows items.size xs /\
     (∀b o,b<s.heap.objs.size->s.heap.get? b=some o->h'.get? b=some o)) E) PySem.F.called_set.init.plain PySem.F.entry_set_init (check_set_init_1 hT ?_)) λr₂ s₂ hr₂=>?_
   .obtain⟨ol,hol,hcl,nl,hdl⟩:=hl;obtain⟨ocls,odict,odata,oslots⟩:=ol;simp only at hcl hdl;subst hcl;subst hdl;have hol':(s.heap.push {cls:=.type "set",dict:=none,data:=.set #[] 0 (.fresh 0 0 led)}).get? l=some {cls:=.type "list",dict:=odict,data:=.seq items nl,slots:=oslots}:=Heap.get?_push_of_some _ hol;have hsls:=a2M;have hslf:=X3;have hne:(Value.type "list"==Value.type "dict")=false:=by decide
    have hl1:(s.heap.push {cls:=.type "set",dict:=none,data:=.set #[] 0 (.fresh 0 0 led)}).IsList l items:=⟨_,hol',rfl,nl,rfl⟩;unfold Builtin.«set.__init__» noKeywords Builtin.Frozenset.updateFrom;generalize hPI:pyIter=PI
    wp_walk
    subst hPI;refine wpAny_pyIter_list hl1 ?_;refine wpAny_bind (wpAny_runValue ?_);have hlS:l<s.heap.objs.size:=Heap.lt_size hol;have hh3:A.in1.in1.in1.handled=none:=by simp[hh]
    have hneI:l≠(s.heap.push {cls:=.type "set",dict:=none,data:=.set #[] 0 (.fresh 0 0 led)}).objs.size:=by
     rw[Heap.size_push];exact Nat.ne_of_lt (Nat.lt_succ_of_lt hlS)
    have hSf:s.heap.objs.size∉[(s.heap.push {cls:=.type "set",dict:=none,data:=.set #[] 0 (.fresh 0 0 led)}).objs.size,l]:=by
     rw[Heap.size_push];simp only[List.mem_cons,List.mem_singleton,List.not_mem_nil,or_false,not_or];exact⟨Nat.ne_of_lt (Nat.lt_succ_self _),Nat.ne_of_gt hlS⟩
    have hget:((s.heap.push {cls:=.type "set",dict:=none,data:=.set #[] 0 (.fresh 0 0 led)}).push {cls:=.type "list_iterator",data:=.fields #[.ref l,.int 0 0]}).get? s.heap.objs.size
       = some {cls:=.type "set",dict:=none,data:=.set #[] 0 (.fresh 0 0 led)}:=Heap.get?_push_of_some _ hS
    refine a5W ((Walks.list hh3 _ l hneI items).toS) s.heap.objs.size hSf rows hval hn (items.size-0) 0 _ [] (by omega) (Nat.zero_le _)
     ⟨⟨_,Heap.get?_push_size _ rfl,rfl,rfl⟩,(hl1.push _)⟩ (b0A hget) ⟨List.nodup_nil,(λx=>⟨(λh=>nomatch h),(λ⟨j,hj,_⟩=>absurd hj (Nat.not_lt_zero j))⟩),Nat.le_refl _⟩ ?hR
    case hR =>
     intro s' xs' hm hS' hC';obtain⟨h',g',d',tk',os'⟩:=s';have eg:g'=s.gens:=hm.gens;have ed:d'=s.drawn:=hm.drawn;have eo:os'=s.os:=hm.os;subst eg;subst ed;subst eo;show wpAny _ _ _ _ _ _;refine wpAny_pure ?_;show wpAny _ _ (ret Value.none) _ _ _;refine wpAny_pure ⟨rfl,h',tk',xs',rfl,hS',hC',λb o hb e=>?_⟩;have hb1:b≠s.heap.objs.size:=Nat.ne_of_lt hb;have hb2:b≠(s.heap.push {cls:=.type "set",dict:=none,data:=.set #[] 0 (.fresh 0 0 led)}).objs.size:=by
      rw[Heap.size_push];exact Nat.ne_of_lt (Nat.lt_succ_of_lt hb)
     exact hm.heap b o (by simp only[List.mem_cons,List.mem_singleton,List.not_mem_nil,or_false,not_or];exact⟨hb1,hb2⟩) (Heap.get?_push_of_some _ (Heap.get?_push_of_some _ e))
   .cases r₂ with
    |error e=>exact hr₂
    |ok fl₂ =>
     cases fl₂ with
     |ret r =>
      obtain⟨rfl,h',tk,xs,rfl,hS',hC',hk'⟩:=hr₂
      repeat (any_goals (first|assumption|wp_step))
      exact h _ _ _ hS' hC' hk'
     |_=>exact hr₂.elim
  |_=>exact hr.elim
end
end TabS
open PySem PySem.Spec PyProof.Rows
def a3G(P:Program)(w:World)(a:Addr)(n:Nat):HO:=.ext λh=>∃D:List Str,TabS.SetS P w h a D/\D.length=n
def b1h(K:PySem.W.Frag)(P:Program)(w:World):RL:=λys H Q=>∃(p:Addr) (ws:List Str),ys=[.ref p]/\SqL K H p (ws.map V.str)/\ws.length+1<scanBound/\∀(a:Addr) (D:List Str),H a=none->D.Nodup->(∀x,x∈D↔x∈ws)->D.length<=ws.length->Q (.ref a) (upd H a (a3G P w a D.length))
def b1l(P:Program)(w:World):RL:=λys H Q=>∃(a:Addr) (n:Nat),ys=[.ref a]/\H a=some (a3G P w a n)/\n<2 ^ 60/\Q (.int n) H
section
variable {X:Cx}
theorem a4Z(K:PySem.W.Frag)(P:Program)(w:World)(hc:X.calm=true)(hK:X.K=K:=by rfl)(hP:X.prog=P:=by rfl)(hw:X.w=w:=by rfl):E9 X (.type "set") (b1h K P w):=by
 subst hK hP hw;intro pins s σ H ys us Q I rv h;obtain⟨p,ws,rfl,hq,hn,q⟩:=h;obtain⟨u,rfl,ru⟩:=rv.one;cases ru;have hh:X.A.handled=none:=I.ok.hd hc;obtain⟨its,r,hL,_⟩:=I.list hq;have hlen:its.length=ws.length:=by rw[<-r.length,List.length_map]
 refine TabS.call_set_strs (rows:=λi=>ws.getD i Str.empty) hh hL.isList (λi v hi hv=>?_) (by rw[List.size_toArray,hlen];exact hn) λh' tk D hS hC hk=>?_
 .have hv:its[i]?=some v:=by simpa using hv
  have hi':i<ws.length:=by rw[<-hlen];exact(List.getElem?_eq_some_iff.mp hv).1
  obtain⟨v',hv',rv'⟩:=r.get (show(ws.map V.str)[i]?=some (V.str ws[i]) by rw[List.getElem?_map,List.getElem?_eq_getElem hi'];rfl);rw[hv]at hv';cases hv';obtain⟨t,rfl⟩:=rv';exact⟨t,by rw[List.getD_eq_getElem?_getD,List.getElem?_eq_getElem hi'];rfl⟩
 .have hfr:H s.heap.objs.size=none:=I.hok.fresh (Nat.le_refl _);have hS':=hS;obtain⟨o,es,ep,t,g1,g2⟩:=hS';refine⟨.ref s.heap.objs.size,_,I.laid (h':=h') (a:=s.heap.objs.size) (o:=a3G X.prog X.w s.heap.objs.size D.length) (t':=tk) (λb o e=>hk b o (Heap.lt_size e) e) (Nat.le_refl _) ⟨⟨D,hS,rfl⟩,⟨o,g1⟩,λh1 h2 ⟨D,q1,q2⟩ kk=>⟨D,TabS.setS_at q1 kk,q2⟩⟩,rfl,q _ D hfr hC.nd (λx=>?_) (by have:=hC.le;rw[List.size_toArray,hlen]at this;exact this)⟩;rw[hC.mem];constructor
  .rintro⟨j,hj,rfl⟩;rw[List.size_toArray,hlen]at hj;show ws.getD j Str.empty∈ws;rw[List.getD_eq_getElem?_getD,List.getElem?_eq_getElem hj];exact List.getElem_mem hj
  .intro hx;obtain⟨j,hj⟩:=List.mem_iff_getElem?.mp hx;refine⟨j,by rw[List.size_toArray,hlen];exact(List.getElem?_eq_some_iff.mp hj).1,?_⟩;show x=ws.getD j Str.empty;rw[List.getD_eq_getElem?_getD,hj];rfl
theorem a6P(P:Program)(w:World)(hP:X.prog=P:=by rfl)(hw:X.w=w:=by rfl):E9 X (.builtin "len") (b1l P w):=by
 subst hP hw;intro pins s σ H ys us Q I rv h;obtain⟨a,n,rfl,ha,hn,q⟩:=h;obtain⟨u,rfl,ru⟩:=rv.one;cases ru;obtain⟨⟨D,hS,hD⟩,_⟩:=(show ObjOk X.prog X.w H s.heap a (a3G X.prog X.w a n)from I.hok a _ ha);obtain⟨o,es,ep,t,g1,g2,g3,_,_,g4,g5,g6⟩:=hS;have hz:es.size=n:=by rw[g6,hD]
 refine call_len_set g1 g2 g3 g5 (by rw[hz];omega) ⟨.int n,H,I.tok _,⟨_,by rw[hz]⟩,q⟩
variable {e:Expr}{es:List Expr}{t:TA}{p pos:Pos}
theorem b0m(K:PySem.W.Frag)(P:Program)(w:World)(hg:Gl X "set")(hm:X.mg "set"=none)(ha:JA X (e::es) t)(hc:X.calm=true:=by rfl)(hK:X.K=K:=by rfl)(hP:X.prog=P:=by rfl)(hw:X.w=w:=by rfl)(he:starEach (e::es) X.env=(false,eval e X.env)::starEach es X.env:=by rfl)(hpl:(backTo pos (starEach es X.env)).any (·.1)=false:=by rfl) :
  JE X (.Call (.Name "set" p) (e::es) [] pos) (tCB (b1h K P w) t):=⟨N6 (a4Z K P w hc hK hP hw) hg hm b3y ha.h (by decide) (by decide) he hpl⟩
theorem b0o(P:Program)(w:World)(hg:Gl X "len")(hm:X.mg "len"=none)(ha:JA X (e::es) t)(hP:X.prog=P:=by rfl)(hw:X.w=w:=by rfl)(he:starEach (e::es) X.env=(false,eval e X.env)::starEach es X.env:=by rfl)(hpl:(backTo pos (starEach es X.env)).any (·.1)=false:=by rfl) :
  JE X (.Call (.Name "len" p) (e::es) [] pos) (tCB (b1l P w) t):=⟨L4 (a6P P w hP hw) hg hm a5c ha.h (by decide) (by decide) he hpl⟩
end
open PySem PySem.Spec PyProof.Rows PySem.Builtin PySem.Builtin.Str PySem.StrLaws
def a7z(K:PySem.W.Frag):V->List V->Hp->VK->Prop:=λx vs H Q=>∃(sep:Str) (p:Addr) (ys:List Str) (B:Nat),x=.str sep/\vs=[.ref p]/\SqT K H p (ys.map V.str)/\(∀y∈ys,y.length<=B)/\ys.length*B+ys.length*sep.length<=16777216/\(Str.join sep ys).length<=sizeLine/\Q (.str (Str.join sep ys)) H
section
variable {X:Cx}
theorem a8p(K:PySem.W.Frag)(hK:X.K=K:=by rfl):MtR X "str.join" (a7z K):=by
 subst hK;intro pins s σ H x vs v us Q I rx rv h;obtain⟨sep,p,ys,B,rfl,rfl,hs,hB,hf,hz,q⟩:=h;obtain⟨t,rfl⟩:=rx;obtain⟨u,rfl,ru⟩:=rv.one;cases ru;obtain⟨its,ri,sq,_⟩:=I.tuple hs;obtain⟨l,rfl,hl⟩:=a0j ri;have ht:tooLong ((l.map (·.1)).toArray.foldl (·+·.length+sep.length) 0)=false:=by
  rw[hl];exact joinFits hB hf
 refine call_meets PySem.F.slot_str_join (typeIs_str _ _ _) PySem.F.entry_str_join (PySem.F.args_str_join_2 _ _) (meets_str_join_tuple sep t p l ht) ⟨by obtain⟨o,e,c,n,d⟩:=sq;exact⟨o,n,e,c,d⟩,?_⟩
 match l,hl with
 |[z],hl =>
  have e:Str.join sep ys=z.1:=by rw[<-hl];exact(glued_eq_join sep [z.1]).symm
  rw[e]at q;exact⟨.str z.1,H,I,⟨_,rfl⟩,q⟩
 |[],hl =>
  refine⟨?_,.str (Str.join sep ys),H,I.tok _,⟨s.toks,?_⟩,q⟩
  .show(glued sep []).length<=_;rw[glued_eq_join,show([]:List Str)=ys from hl];exact hz
  .show Value.str (glued sep []) _=_;rw[glued_eq_join,show([]:List Str)=ys from hl]
 |z::z2::l,hl =>
  refine⟨?_,.str (Str.join sep ys),H,I.tok _,⟨s.toks,?_⟩,q⟩
  .show(glued sep ((z::z2::l).map (·.1))).length<=_;rw[glued_eq_join,hl];exact hz
  .show Value.str (glued sep ((z::z2::l).map (·.1))) _=_;rw[glued_eq_join,hl]
variable {o e:Expr}{es:List Expr}{to:TE}{t:TA}{apos cpos:Pos}
theorem a4d(K:PySem.W.Frag)(ho:JE X o to)(ha:JA X (e::es) t)(hK:X.K=K:=by rfl)(hbase:attributeBase o "join" X.env (eval o X.env)=eval o X.env:=by rfl)
  (hfew:((backTo cpos (starEach (e::es) X.env)).all (λx=>!x.1) && (backToKw cpos (keywordEach [] X.env)).all (λx=>x.1.isSome) && decide ((e::es).length+([]:List Keyword).length+(if ([]:List Keyword).isEmpty then 0 else 1)<30))=true:=by rfl)
  (hline:(apos.endLine==cpos.line)=true:=by rfl) (hs:starEach (e::es) X.env=(false,eval e X.env)::starEach es X.env:=by rfl) (hplain:(backTo cpos (starEach es X.env)).any (·.1)=false:=by rfl) :
  JE X (.Call (.Attribute o "join" apos) (e::es) [] cpos) (tBM K "str" (a7z K) to t):=⟨U4 K PySem.F.plainAttrs_str PySem.F.slot_str_join PySem.F.type_str_join (a8p K hK) ho.h ha.h hK hbase hfew hline hs hplain⟩
def X4(z:Str)(n:Nat):Str:=⟨(List.replicate n z.cps.toList).flatten.toArray⟩
def b1i:R2:=λx y H Q=>∃(z:Str) (n:Nat),x=.str z/\y=.int n/\z.length<=10/\n<=1000/\Q (.str (X4 z n)) H
theorem a4k(c:Array Nat):∀(n:Nat) (a:Array Nat),((List.replicate n c).foldl (λx1 x2=>x1++x2) a).toList=a.toList++(List.replicate n c.toList).flatten
 |0,a=>by simp
 |n+1,a=>by
  rw[List.replicate_succ,List.foldl_cons,a4k c n,List.replicate_succ,List.flatten_cons,Array.toList_append,List.append_assoc]
theorem b0g(z:Str)(n:Nat):PySem.Txt.mul z n=X4 z n:=by
 refine PySem.Str.ext' (Array.toList_inj.mp ?_);unfold PySem.Txt.mul X4;by_cases h0:n=0
 .subst h0;rfl
 rw[if_neg (by omega)];by_cases h1:((n:Int)==1 || z.length==0)=true
 .rw[if_pos h1];simp only[Bool.or_eq_true,beq_iff_eq]at h1;rcases h1 with h1|h1
  .have:n=1:=by omega
   subst this;simp
  .have hz:z.cps.toList=[]:=by
    rw[<-List.length_eq_zero_iff,Array.length_toList];exact h1
   rw[hz];have:∀m:Nat,(List.replicate m ([]:List Nat)).flatten=[]:=λm=>by induction m with
    |zero=>rfl
    |succ m ih=>rw[List.replicate_succ,List.flatten_cons,ih];rfl
   rw[this]
 .rw[if_neg h1];rw[a4k];simp
theorem a9X:OpR X (binaryOp .Mult) b1i:=by
 intro pins s σ H x y v u Q I rx ry h;obtain⟨z,n,rfl,rfl,hz,h1,q⟩:=h;obtain⟨t,rfl⟩:=rx;obtain⟨t',rfl⟩:=ry;refine PySem.SB.mul ⟨?_,λ_ _=>?_,λ_ _=>?_⟩ λt2 k=>⟨.str (X4 z n),H,?_,⟨_,by rw[b0g]⟩,q⟩
 .rw[decide_eq_false (by omega),decide_eq_false (by omega)];rfl
 .rename_i hn _;have h2:(1000:Int)<=(2 ^ 63-1) / n:=Int.le_ediv_of_mul_le (by omega) (by omega);omega
 .have hm:z.length*(n:Int).toNat<=10*1000:=Nat.mul_le_mul hz (by omega);show decide (_ > sizeLine)=false;exact decide_eq_false (by rw[sizeLine_eq];omega)
 .exact I.tok _
theorem b3d{a b:Expr}{ta tb:TE}{pos:Pos}(ha:JE X a ta)(hb:JE X b tb):JE X (.BinOp a .Mult b pos) (tOp b1i ta tb):=⟨U3 a9X ha.h hb.h⟩
end
end L2
namespace L2
open PySem PySem.Spec PyProof.Rows PySem.W
def b0x:V->Bool
 |.non=>true
 |_=>false
def a2u:Value->Bool
 |.none=>true
 |_=>false
def b4r(K:PySem.W.Frag):R2:=λx y H Q=>∃(p:Addr) (xs:List V),x=.non/\y=.ref p/\SqL K H p xs/\(∀v∈xs,v=.non∨∃a vs,v=.ref a/\H a=some (.tup vs))/\Q (.bl (xs.any b0x)) H
section
variable {X:Cx}
theorem b2F(K:PySem.W.Frag)(hu:X.A.units+60<cLine)(hK:X.K=K:=by rfl):OpR X (compareOp .In) (b4r K):=by
 subst hK;intro pins s σ H x y v u Q I rx ry h;obtain⟨p,xs,rfl,rfl,hq,hx,q⟩:=h;cases rx;cases ry;obtain⟨its,r,pl,hz⟩:=I.list hq;have hl:=r.length;have key:∀(i:Nat) (hi:i<its.length),SeqAt.EqAt X.A.in1 s its[i] .none (a2u its[i])/\∃hi':i<xs.length,a2u its[i]=b0x xs[i]:=λi hi=>by
  have hy:xs[i]?=some (xs[i]'(by omega)):=List.getElem?_eq_getElem (by omega);obtain⟨u',e1,e2⟩:=r.get hy;rw[List.getElem?_eq_getElem hi]at e1;cases e1;rcases hx _ (List.getElem_mem (by omega:i<xs.length))with e|⟨a,vs,e,ha⟩
  .rw[e]at e2;have e3:its[i]=.none:=e2;refine⟨?_,by omega,by rw[e,e3];rfl⟩;rw[e3];have:=(EqV.flat (K:=X.K) (H:=H) (n:=0) (x:=.non) (y:=.non) rfl rfl).at I (A:=X.A.in1) (u:=.none) (v:=.none) (by have:X.A.in1.units=X.A.units+1:=rfl;omega) rfl rfl;rw[a4m rfl]at this;exact this
  .rw[e]at e2;have e3:its[i]=.ref a:=e2;obtain⟨its',_,pt,_⟩:=I.tuple (SqT.of (K:=X.K) ha);refine⟨?_,by omega,by rw[e,e3];rfl⟩;rw[e3];exact SeqAt.EqAt.tuple_none pt (by have:X.A.in1.units=X.A.units+1:=rfl;omega)
 have ha:its.any a2u=xs.any b0x:=by
  rw[Bool.eq_iff_iff,List.any_eq_true,List.any_eq_true];constructor
  .rintro⟨u,hu,e⟩;obtain⟨i,hi,rfl⟩:=List.mem_iff_getElem.mp hu;obtain⟨_,hi',e'⟩:=key i hi;exact⟨_,List.getElem_mem hi',by rw[<-e'];exact e⟩
  .rintro⟨u,hu,e⟩;obtain⟨i,hi,rfl⟩:=List.mem_iff_getElem.mp hu;obtain⟨_,hi',e'⟩:=key i (by omega);exact⟨its[i]'(by omega),List.getElem_mem _,by rw[e'];exact e⟩
 refine SeqAt.in_listAt a2u pl.isList (λw hw=>?_) ⟨.bl _,H,I,rfl,?_⟩
 .obtain⟨i,hi,rfl⟩:=List.mem_iff_getElem.mp (show w∈its by simpa using hw);exact(key i hi).1
 .rw[show its.toArray.any a2u=its.any a2u by simp,ha];exact q
variable {a b:Expr}{ta tb:TE}{pos:Pos}
theorem b2V(K:PySem.W.Frag)(hu:X.A.units+60<cLine)(ha:JE X a ta)(hb:JE X b tb)(hm:behindInMarks .In b=false)(hK:X.K=K:=by rfl):JT X (.Compare a [.In] [b] pos) (J7 (tOp (b4r K) ta tb)):=⟨G5 (b2F K hu hK) ha.h hb.h hm⟩
end
end L2
namespace K46
open PySem PySem.Spec PyProof.Rows L2
noncomputable def top(i:Nat):Stmt:=PySem.Challenge.pw_leastlays_k46_one_system_by_many_texts.main.body.getD i (.Pass ⟨0,0,0,0⟩)
noncomputable abbrev V6:Stmt:=top 4
noncomputable abbrev M8:Stmt:=top 5
noncomputable abbrev J9:Stmt:=top 6
noncomputable abbrev K8:Stmt:=top 7
noncomputable abbrev Z0:Stmt:=top 9
noncomputable abbrev O4:Stmt:=top 10
noncomputable abbrev M7:Stmt:=top 11
noncomputable abbrev S5:Stmt:=top 12
noncomputable abbrev K5:Stmt:=top 13
noncomputable abbrev S3:Stmt:=top 19
noncomputable abbrev K7:Stmt:=top 20
noncomputable abbrev O3:Stmt:=top 22
noncomputable abbrev M6:Stmt:=top 23
noncomputable abbrev S4:Stmt:=top 24
noncomputable abbrev J8:Stmt:=top 25
noncomputable abbrev K6:Stmt:=top 26
noncomputable abbrev S8:Stmt:=top 28
noncomputable abbrev O7:Stmt:=top 29
noncomputable abbrev V7:Stmt:=top 30
noncomputable abbrev M9:Stmt:=top 31
noncomputable abbrev N0:Stmt:=top 32
noncomputable abbrev N1:Stmt:=top 33
noncomputable abbrev O6:Stmt:=top 34
noncomputable abbrev O5:Stmt:=top 35
noncomputable abbrev S7:Stmt:=top 36
noncomputable abbrev O8:Stmt:=top 37
noncomputable abbrev S6:Stmt:=top 38
noncomputable abbrev K0:Stmt:=top 39
noncomputable abbrev G2:Stmt:=top 40
noncomputable abbrev a1i:Stmt:=top 41
noncomputable abbrev G4:Stmt:=a0b (top 14) 0
noncomputable abbrev N2:Stmt:=a0b (top 14) 1
noncomputable abbrev E1:Stmt:=a0b (top 14) 2
noncomputable abbrev G3:Stmt:=a0b (top 14) 3
noncomputable abbrev K9:Stmt:=a0b (top 14) 4
structure Tx(mg:Str->Option Value):Prop where
 b_ValueError:mg "ValueError"=none
 b_abs:mg "abs"=none
 b_all:mg "all"=none
 b_bool:mg "bool"=none
 b_enumerate:mg "enumerate"=none
 b_int:mg "int"=none
 b_isinstance:mg "isinstance"=none
 b_len:mg "len"=none
 b_list:mg "list"=none
 b_max:mg "max"=none
 b_min:mg "min"=none
 b_range:mg "range"=none
 b_set:mg "set"=none
 b_str:mg "str"=none
 b_tuple:mg "tuple"=none
 b_zip:mg "zip"=none
def C2(x:Int):Str:=C6 x.toNat
abbrev bk:Str:=⟨#[32]⟩
abbrev lf:Str:=⟨#[10]⟩
theorem B7(x y:Str):(x++y).length=x.length+y.length:=by
 show(x++y).cps.size=_;rw[Str.cps_append,Array.size_append];rfl
theorem K2{c B:Nat}:∀{ys:List Str},(∀y∈ys,y.length<=B)->(Str.join ⟨#[c]⟩ ys).length<=ys.length*(B+1)
 |[],_=>Nat.zero_le _
 |[x],h=>by
  have:=h x List.mem_cons_self;show x.length<=1*(B+1);omega
 |x::y::r,h=>by
  have h1:=h x List.mem_cons_self;have h2:=K2 (c:=c) (ys:=y::r) λz hz=>h z (List.mem_cons_of_mem _ hz);show(x++⟨#[c]⟩++Str.join ⟨#[c]⟩ (y::r)).length<=_;rw[B7,B7,show(⟨#[c]⟩:Str).length=1 from rfl,List.length_cons,Nat.succ_mul];omega
def ln(w:Str)(xs:List Int):Str:=Str.join bk (w::xs.map C2)
theorem a3U{c d:Nat}:∀{ys:List Str},d≠c->(∀y∈ys,d∉y.cps.toList)->d∉(Str.join ⟨#[c]⟩ ys).cps.toList
 |[],_,_=>λh=>nomatch h
 |[x],_,h=>h x List.mem_cons_self
 |x::y::r,hd,h=>λhm=>by
  rw[V2]at hm;rcases List.mem_append.mp hm with q|q
  .exact h x List.mem_cons_self q
  .rcases List.mem_cons.mp q with q|q
   .exact hd q
   .exact a3U (c:=c) hd (λz hz=>h z (List.mem_cons_of_mem _ hz)) q
abbrev wL:Str:=⟨#[108,101,97,115,116]⟩
abbrev wS:Str:=⟨#[115,116,101,112]⟩
def lns(A B:LLI):List Str:=A.map (ln wL)++B.map (ln wS)
def pt(A B:LLI):Str:=Str.join lf (lns A B)
section
variable {K:PySem.W.Frag}{α:Type}{src:List (Option Nat)}{σ caps:L2.St}{Q:VK}{a:Addr}{vs:List V}{as:List α}{H:Hp}{te:TE}
theorem a2o(f:α->V)(hz:vs.length<=sizeLine)(hl:vs.length=as.length)(hmono:∀H',Same H H'->SqL K H' a vs)(hsrc:B8 src σ=none::caps)
  (hte:∀(i:Nat) (v:V) (x:α) (H1:Hp) (Q1:VK),vs[i]?=some v->as[i]?=some x->Same H H1->(∀H2,Same H1 H2->Q1 (f x) H2)->te (some v::caps) H1 Q1) (hd:∀H1 p,Same H H1->H1 p=none->Q (.ref p) (upd H1 p (.lst (as.map f)))):L9 src (A9 0) Y7 te σ Q (Itl K a) H:=by
 refine W4 (xs:=vs) hz (λi ys H'=>Same H H'/\ys=(as.take i).map f) ⟨Same.refl H,by simp⟩ (λi ys H' _ h=>⟨hmono H' h.1,by rw[h.2,List.length_map];exact List.length_take_le _ _⟩) ?_ ?_
 .rintro i v ys H' hv ⟨s,rfl⟩;have hi:i<as.length:=by rw[<-hl];exact(List.getElem?_eq_some_iff.mp hv).1
  show Sub _ ((B8 src σ).set 0 (some v))/\_;rw[hsrc];refine⟨Sub.one,hte i v as[i] H' _ hv (List.getElem?_eq_getElem hi) s λH2 s2=>⟨s.trans s2,?_⟩⟩;rw[List.take_add_one,List.getElem?_eq_getElem hi,List.map_append];rfl
 .rintro ys H' ⟨s,rfl⟩ p hp;rw[List.take_of_length_le (by omega)];exact hd H' p s hp
theorem Y3(f:α->V)(hz:vs.length<=sizeLine)(hl:vs.length=as.length)(hmono:∀H',Same H H'->SqT K H' a vs)(hsrc:B8 src σ=none::caps)
  (hte:∀(i:Nat) (v:V) (x:α) (H1:Hp) (Q1:VK),vs[i]?=some v->as[i]?=some x->Same H H1->(∀H2,Same H1 H2->Q1 (f x) H2)->te (some v::caps) H1 Q1) (hd:∀H1 p,Same H H1->H1 p=none->Q (.ref p) (upd H1 p (.lst (as.map f)))):L9 src (A9 0) Y7 te σ Q (Itt K a) H:=by
 refine a4r (xs:=vs) hz (λi ys H'=>Same H H'/\ys=(as.take i).map f) ⟨Same.refl H,by simp⟩ (λi ys H' _ h=>⟨hmono H' h.1,by rw[h.2,List.length_map];exact List.length_take_le _ _⟩) ?_ ?_
 .rintro i v ys H' hv ⟨s,rfl⟩;have hi:i<as.length:=by rw[<-hl];exact(List.getElem?_eq_some_iff.mp hv).1
  show Sub _ ((B8 src σ).set 0 (some v))/\_;rw[hsrc];refine⟨Sub.one,hte i v as[i] H' _ hv (List.getElem?_eq_getElem hi) s λH2 s2=>⟨s.trans s2,?_⟩⟩;rw[List.take_add_one,List.getElem?_eq_getElem hi,List.map_append];rfl
 .rintro ys H' ⟨s,rfl⟩ p hp;rw[List.take_of_length_le (by omega)];exact hd H' p s hp
end
abbrev topN:Int:=1000000000000
abbrev wd(s:String):Str:=Str.ofString s
theorem a1N:∀(k:Nat) (l:List Nat),l.length=k+1->(∀c∈l,48<=c/\c<=57)->(l.head?≠some 48∨l=[48])->∃n:Nat,(Nat.toDigits 10 n).map Char.toNat=l/\(l.head?≠some 48->0<n)
 |0,[c],_,h,_=>by
  obtain⟨h1,h2⟩:=h c List.mem_cons_self;refine⟨c-48,?_,λhh=>?_⟩
  .rw[Nat.toDigits_of_lt_base (by omega)];have:∀d:Nat,d<10->(Nat.digitChar d).toNat=d+48:=by decide
   rw[List.map_cons,this _ (by omega),show c-48+48=c by omega];rfl
  .have:c≠48:=λz=>hh (by rw[z];rfl);omega
 |k+1,l,hl,h,h0=>by
  have hne:l≠[]:=λz=>by rw[z]at hl;cases hl
  have hsp:=List.dropLast_concat_getLast hne;have hlen:l.dropLast.length=k+1:=by rw[List.length_dropLast];omega
  have hhd:l.head?≠some 48:=by
   rcases h0 with z|z
   .exact z
   .rw[z]at hl;cases hl
  have hhd':l.dropLast.head?=l.head?:=by
   match l,hlen with
   |a::b::r,_=>rfl
  obtain⟨n,e,hn⟩:=a1N k l.dropLast hlen (λc hc=>h c ((List.dropLast_sublist l).mem hc)) (.inl (by rw[hhd'];exact hhd));have hn:=hn (by rw[hhd'];exact hhd);obtain⟨d1,d2⟩:=h _ (List.getLast_mem hne);refine⟨10*n+(l.getLast hne-48),?_,λ_=>by omega⟩;rw[<-Nat.toDigits_append_toDigits (by decide) hn (by omega),List.map_append,e,Nat.toDigits_of_lt_base (by omega)];have:∀d:Nat,d<10->(Nat.digitChar d).toNat=d+48:=by decide
  rw[List.map_cons,this _ (by omega),show l.getLast hne-48+48=l.getLast hne by omega];exact hsp
theorem b4P{w:Str}(h:∀c∈w.cps.toList,48<=c/\c<=57)(hne:w.cps.toList≠[])(h0:w.cps.toList.head?≠some 48∨w.cps.toList=[48]):∃n:Nat,w=C6 n:=by
 obtain⟨k,hk⟩:∃k,w.cps.toList.length=k+1:=by
  cases e:w.cps.toList with
  |nil=>exact absurd e hne
  |cons a r=>exact⟨r.length,rfl⟩
 obtain⟨n,e,_⟩:=a1N k _ hk h h0;refine⟨n,Str.ext' ?_⟩;rw[<-L8]at e;exact(Array.toList_inj.mp e).symm
theorem a1F{m n:Nat}(h:C6 m=C6 n):m=n:=by
 have e:(Nat.toDigits 10 m).map Char.toNat=(Nat.toDigits 10 n).map Char.toNat:=by rw[<-L8,<-L8,h]
 have v:=congrArg PySem.NumText.digitsVal e;rw[PySem.W.KIN.val_back,PySem.W.KIN.val_back]at v;exact v
noncomputable def rdN(w:Str):Option Int:=open Classical in if h:∃n:Nat,w=C6 n/\n<=1000000000000 then some (h.choose:Int)else none
theorem a3I{n:Nat}(h:n<=1000000000000):rdN (C6 n)=some (n:Int):=by
 unfold rdN;have hx:∃m:Nat,C6 n=C6 m/\m<=1000000000000:=⟨n,rfl,h⟩;rw[dif_pos hx];have:=a1F hx.choose_spec.1;rw[<-this]
theorem a3J{w:Str}(h:∀n:Nat,w=C6 n->¬n<=1000000000000):rdN w=none:=by
 unfold rdN;exact dif_neg λ⟨n,e,l⟩=>h n e l
theorem a9p{w:Str}{x:Int}(h:rdN w=some x):0<=x/\x<=topN/\w=C2 x:=by
 unfold rdN at h;split at h
 .rename_i hx;obtain⟨e,l⟩:=hx.choose_spec;generalize hx.choose=n at e l h;cases h;exact⟨by omega,by show _<=(1000000000000:Int);omega,by rw[e,C2];congr 1⟩
 .cases h
theorem a1j{x:Int}(h0:0<=x)(h1:x<=topN):rdN (C2 x)=some x:=by
 have h1:x<=1000000000000:=h1;have:=a3I (n:=x.toNat) (by omega);rw[show((x.toNat:Nat):Int)=x by omega]at this;exact this
def ovI:Option Int->V
 |some x=>.int x
 |none=>.non
def isNm(w:Str):Prop:=1<=w.length/\w.length<=8/\∀c∈w.cps.toList,97<=c/\c<=122
noncomputable instance (w:Str):Decidable (isNm w):=Classical.propDecidable _
def E6(s:List (List Str)×List Str)(w:Str):List (List Str)×List Str:=if w=wd "+" then(s.1++[s.2],[])else(s.1,s.2++[w])
def prt(ws:List Str):List (List Str):=let s:=ws.foldl E6 ([],[]);s.1++[s.2]
def pfT(ns ws:List Str):Nat×List Str:=match ws.getLast? with
 |some l=>if l∈ns then(ns.idxOf l,if ws.length > 1 then ws.dropLast else[wd "1"])else(ns.length,ws)
 |none=>(ns.length,ws)
noncomputable def rdF(j:Nat):List Str->Option (Nat×Int)
 |[f]=>(match rdN f with
  |some x=>if x=0 then none else some (j,x)
  |none=>none)
 |_=>none
noncomputable def rdT(ns ws:List Str):Option (Nat×Int):=rdF (pfT ns ws).1 (pfT ns ws).2
def E4(t:List Int)(p:Nat×Int):List Int:=t.set p.1 (t.getD p.1 0+p.2)
noncomputable def U0(ns ws:List Str):Option (List Int) :=
 if ws=[wd "0"] then some (List.replicate (ns.length+1) 0)
 else if ((prt ws).map (rdT ns)).all Option.isSome then some (((prt ws).filterMap (rdT ns)).foldl E4 (List.replicate (ns.length+1) 0))
 else none
def a8T(l r:List Int):Option (List Int):=if ∀x∈List.zipWith (λa b:Int=>a-b) l r,-topN<=x/\x<=topN then some (List.zipWith (λa b:Int=>a-b) l r)else none
def a6G:Option (List Int)->Option (List Int)->Option (List Int)
 |some l,some r=>a8T l r
 |_,_=>none
noncomputable def M0(ns ws:List Str):Option (List Int):=if ws.count (wd "=")=1 then a6G (U0 ns (ws.take (ws.idxOf (wd "=")))) (U0 ns (ws.drop (ws.idxOf (wd "=")+1)))else none
structure Dr where
 names:List Str
 rows:LLI
 sides:List Int
 caps:List (Str×Int)
 prices:List (Str×Int)
noncomputable def tkN(ns:List Str)(kept:List (Str×Int)):List Str->Option (List (Str×Int))
 |[n,f]=>if n∈ns/\n∉kept.map (·.1)then(rdN f).map λx=>kept++[(n,x)] else none
 |_=>none
noncomputable def Dr.take(d:Dr):List Str->Option Dr
 |[]=>none
 |w::r =>
  if d.names=[] then(if w=wd "of"/\1<=r.length/\r.length<=7/\r.Nodup/\∀x∈r,isNm x then some {d with names:=r} else none)
  else if w=wd "sum" then(match M0 d.names r with
   |some l=>if d.rows.length=6 then none else some {d with rows:=d.rows++[l.dropLast],sides:=d.sides++[-(l.getLastD 0)]}
   |none=>none)
  else if w=wd "cap" then(tkN d.names d.caps r).map λc=>{d with caps:=c}
  else if w=wd "price" then(tkN d.names d.prices r).map λc=>{d with prices:=c}
  else none
def Wok(w:Str):Prop:=w.cps.all (· < 128)=true/\w.length<=10000
def Wks(ws:List Str):Prop:=ws.length<=10000/\∀w∈ws,Wok w
section
variable {P:Program}{w:World}{K:PySem.W.Frag}{mg:Str->Option Value}{base:Heap}
abbrev fgs:Str:=Str.ofString "0123456789"
abbrev lts:Str:=Str.ofString "abcdefghijklmnopqrstuvwxyz"
theorem a5J(c:Nat):c∈fgs.cps.toList↔48<=c/\c<=57:=by
 have e:fgs.cps.toList=[48,49,50,51,52,53,54,55,56,57]:=by with_unfolding_all rfl
 rw[e];simp only[List.mem_cons,List.not_mem_nil,or_false];omega
theorem a5u(c:Nat):c∈lts.cps.toList↔97<=c/\c<=122:=by
 have e:lts.cps.toList=[97,98,99,100,101,102,103,104,105,106,107,108,109,110,111,112,113,114,115,116,117,118,119,120,121,122]:=by with_unfolding_all rfl
 rw[e];simp only[List.mem_cons,List.not_mem_nil,or_false];omega
theorem a3E{σ:L2.St}{src:List (Option Nat)}{Q:VK}{x z:Str}{H:Hp}{te:TE}(hx:x.length<=10000)(hte:∀c H' (N:VK),N (.bl (decide (c∈z.cps.toList))) H'->te ((B8 src σ).set 0 (some (.str ⟨#[c]⟩))) H' N)(h0:∀v,Sub (B8 src σ) ((B8 src σ).set 0 (some v)))
  (hd:∀p,H p=none->Q (.ref p) (upd H p (.lst (x.cps.toList.map λc=>V.bl (decide (c∈z.cps.toList)))))):L9 src (A9 0) Y7 te σ Q (Itc x) H:=by
 have hz:(100000:Nat)<=sizeLine:=by rw[sizeLine_eq];decide
 refine a6J (x:=x) (by show x.length<=_;omega) (λi ys H'=>H'=H/\ys=(x.cps.toList.take i).map λc=>V.bl (decide (c∈z.cps.toList))) ⟨rfl,by simp⟩ (λi ys H' h=>by rw[h.2,List.length_map];exact List.length_take_le _ _) ?_ ?_
 .rintro i c ys H' hc ⟨rfl,rfl⟩;refine⟨h0 _,hte c _ _ ⟨rfl,?_⟩⟩;rw[<-Array.getElem?_toList]at hc;rw[List.take_add_one,hc,List.map_append];rfl
 .rintro ys H' ⟨rfl,rfl⟩ p hp;rw[show x.cps.size=x.cps.toList.length by rw[Array.length_toList],List.take_length];exact hd p hp
theorem a2G(l:List Nat)(p:Nat->Bool):(l.map λc=>V.bl (p c)).all trV=l.all p:=by
 rw[List.all_map];rfl
theorem a1E(l:List Nat)(p:Nat->Bool):(l.map λc=>V.bl (p c)).all a5I=true:=by
 rw[List.all_map,List.all_eq_true];intro x _;rfl
def b1e:Sp:=λvs H Q _=>∃w:Str,vs=[.str w]/\Wok w/\∀b H',(b=true↔∃n:Nat,w=C6 n)->Same H H'->Q (.bl b) H'
theorem a1T:FnScope ["word"] ["word"] (A3 M8):=⟨rfl,rfl,rfl,by decide +kernel,rfl,by decide +kernel,by decide +kernel⟩
theorem a6C(n:Nat):C6 n=Str.ofString "0"∨(C6 n≠Str.ofString "" /\ ∃c,c≠48/\atI (C6 n).cps.toList 0=some c):=by
 by_cases h0:n=0
 .exact .inl (by rw[h0];exact a6B)
 .refine .inr ⟨λe=>a0d n (by rw[e];rfl),?_⟩;have hh:=a6D n (by omega);have hn:=a0d n;cases e:(C6 n).cps.toList with
  |nil=>exact absurd e hn
  |cons c r =>
   rw[e]at hh;exact⟨c,λz=>hh (by rw[z];rfl),L3 (j:=0) rfl⟩
theorem dq0(c:Nat):(!decide (V.str ⟨#[c]⟩=V.str (Str.ofString "0")))=decide (c≠48):=by
 by_cases h:c=48
 .subst h;rfl
 .rw[decide_eq_true h,decide_eq_false λz=>?_]
  .rfl
  .injection z with z
   have z':[c]=[48]:=congrArg (λt:Str=>t.cps.toList) z;injection z' with z'
   exact h z'
theorem a2a{tF:Tok}(F:FunAt K mg "is_written" M8 ["word"])(T:Tx mg)(M_FIGURES:mg "FIGURES"=some (.str fgs tF)):Ok P w K mg base "is_written" 1 ["word"] b1e:=by
 refine F.okJ a1T (λvs H Q E h=>?_) (λcdv f A outer s H vs Q E hr h=>?_)
 .obtain⟨x,rfl,_⟩:=h;rfl
 .obtain⟨x,rfl,⟨ha,hl⟩,k⟩:=h;have hz:(100000:Nat)<=sizeLine:=by rw[sizeLine_eq];decide
  refine⟨_,(A1 (C0 (V1 (T0 K (a3i K rfl T.b_all (jaC (J2 (N:=["sign"]) (src:=[none]) (a5z (jv 0)) (by show D0 _ _=true;rfl) (by rfl) (by rfl)
 (λ_ _ _ _ _=>(A8 (i:=0) (show(["sign"]:List Str).Nodup by decide +kernel) rfl (Or.inl rfl))) (λ_ _ _ _ _=>E7) (λ_ _ _ _ _=>(a8v (jv 0) (a1y (v:=.str (Str.ofString "0123456789")) rfl M_FIGURES ⟨_,rfl⟩) (by with_unfolding_all rfl)))) jaN))))
 (A5 (B0 a0L))
 B6)
 (A5 (B0 (b4W (a1t (jv 0) B2) (a1w (a1z (b1r (jv 0) B2) (a1w (b1r (b1t (jv 0) A2) B2)))))))),?_⟩
  refine⟨_,rfl,_,rfl,ha,?_⟩;refine a3E (z:=fgs) hl (λc H' N hN=>⟨_,rfl,c,fgs,rfl,rfl,hN⟩) (λv=>Sub.one) λp hp=>?_;have s1:=(Same.refl H).upd (o:=.lst (x.cps.toList.map λc=>V.bl (decide (c∈fgs.cps.toList)))) hp;refine⟨false,p,_,rfl,SqL.of A0,a1E _ _,?_⟩;rw[a2G];refine⟨_,rfl,C9 (λe=>?_) (λe=>?_)⟩
  .refine k false _ ⟨λz=>(nomatch z),λ⟨n,hn⟩=>?_⟩ s1;have:x.cps.toList.all (λc=>decide (c∈fgs.cps.toList))=true:=by
    rw[List.all_eq_true];intro c hc;rw[hn]at hc;have:=V3 n c hc;exact decide_eq_true ((a5J c).mpr ⟨by omega,by omega⟩)
   rw[this]at e;cases e
  have hd:∀c∈x.cps.toList,48<=c/\c<=57:=λc hc=>by
   have e':x.cps.toList.all (λc=>decide (c∈fgs.cps.toList))=true:=by simpa using e
   exact(a5J c).mp (of_decide_eq_true (List.all_eq_true.mp e' c hc))
  refine⟨_,rfl,rfl,_,rfl,C9 (λe=>?_) (λe=>?_)⟩
  .refine k true _ ⟨λ_=>⟨0,?_⟩,λ_=>rfl⟩ s1;injection of_decide_eq_true e
  have n0:x≠Str.ofString "0":=λz=>e (decide_eq_true (by rw[z]));refine⟨_,rfl,rfl,_,rfl,C9 (λe=>?_) (λe=>?_)⟩
  .have hne:x.cps.toList≠[]:=λz=>by
    have:x=Str.ofString "":=Str.ext' (by rw[<-Array.toList_inj,z];rfl);rw[this,decide_eq_true rfl]at e;cases e
   obtain⟨c,r,hc⟩:∃c r,x.cps.toList=c::r:=by
    cases hc:x.cps.toList with
    |nil=>exact absurd hc hne
    |cons c r=>exact⟨c,r,rfl⟩
   .refine⟨_,rfl,_,0,c,rfl,rfl,by omega,by rw[hc];exact L3 (j:=0) rfl,rfl,?_⟩;rw[dq0];refine k _ _ ⟨λz=>b4P hd hne (.inl ?_),λ⟨n,hn⟩=>?_⟩ s1
    .rw[hc];intro y;injection y with y
     exact of_decide_eq_true z y
    .rcases a6C n with z|⟨_,c',h1,h2⟩
     .exact absurd (hn.trans z) n0
     .rw[<-hn,hc]at h2;injection (show atI (c::r) 0=some c from L3 (j:=0) rfl).symm.trans h2 with h2
      exact decide_eq_true (by rw[h2];exact h1)
  .refine k false _ ⟨λz=>(nomatch z),λ⟨n,hn⟩=>?_⟩ s1;refine absurd ?_ e;rw[decide_eq_false λz=>?_]
   .rfl
   .injection z with z
    exact a0d n (by rw[<-hn,z];rfl)
def b4c:Sp:=λvs H Q _=>∃(w:Str) (m:Nat),vs=[.str w,.int m]/\Wok w/\m<=600/\(∀n H',w=C6 n->w.length<=m->Same H H'->Q (.int n) H')/\((∀n,w=C6 n->m<w.length)->∀H',Same H H'->Q .non H')
theorem a0G:FnScope ["word","most"] ["word","most"] (A3 J9):=⟨rfl,rfl,rfl,by decide +kernel,rfl,by decide +kernel,by decide +kernel⟩
theorem a0I(F:FunAt K mg "read_figures" J9 ["word","most"])(T:Tx mg)(O_is_written:Ok P w K mg base "is_written" 1 ["word"] b1e):Ok P w K mg base "read_figures" 2 ["word","most"] b4c:=by
 refine F.okJ a0G (λvs H Q E h=>?_) (λcdv f A outer s H vs Q E hr h=>?_)
 .obtain⟨x,m,rfl,_⟩:=h;rfl
 .obtain⟨x,m,rfl,hx,hm,k1,k2⟩:=h;have hz:(100000:Nat)<=sizeLine:=by rw[sizeLine_eq];decide
  refine⟨_,(A1 (C0 (Z6 (T6 (T7 (a3g rfl T.b_len (jaC (jv 0) jaN)) (jv 1)) (R1 (V1 (T0 K (A7 O_is_written (hr.mono (by omega)) rfl (jaC (jv 0) jaN)))))))
 (A5 (B0 G9))
 B6)
 (A5 (B0 (b0p rfl T.b_int (jaC (jv 0) jaN))))),?_⟩
  refine⟨_,rfl,_,rfl,by have:=hx.2;omega,_,rfl,_,_,rfl,rfl,_,rfl,C9 (λe=>?_) (λe=>?_)⟩
  .have e:=of_decide_eq_true e;exact k2 (λn _=>by omega) _ (Same.refl _)
  .have e:x.length<=m:=by
    have:¬((m:Int)<(x.length:Int)):=λz=>e (decide_eq_true z);omega
   refine⟨_,rfl,x,rfl,hx,λb H1 hb s1=>⟨_,rfl,C9 (λe=>?_) (λe=>?_)⟩⟩
   .refine k2 (λn hn=>?_) _ s1;rw[hb.mpr ⟨n,hn⟩]at e;cases e
   .have hb1:b=true:=by simpa using e
    obtain⟨n,hn⟩:=hb.mp hb1;refine⟨_,rfl,_,(n:Int),rfl,by omega,?_,k1 n H1 hn ‹_› s1⟩;rw[hn];exact a4U (by rw[<-hn];omega)
def b1M:Sp:=λvs H Q _=>∃(w:Str),vs=[.str w,.int 1000000000000]/\Wok w/\∀H',Same H H'->Q (ovI (rdN w)) H'
theorem sc_read_number:FnScope ["word","top","number"] ["word","top"] (A3 K8):=⟨rfl,rfl,rfl,by decide +kernel,rfl,by decide +kernel,by decide +kernel⟩
theorem a1o(F:FunAt K mg "read_number" K8 ["word","top"])(T:Tx mg)(O_read_figures:Ok P w K mg base "read_figures" 2 ["word","most"] b4c):Ok P w K mg base "read_number" 3 ["word","top"] b1M:=by
 refine F.okJ sc_read_number (λvs H Q E h=>?_) (λcdv f A outer s H vs Q E hr h=>?_)
 .obtain⟨x,rfl,_⟩:=h;rfl
 .obtain⟨x,rfl,hx,k⟩:=h;have hz:(100000:Nat)<=sizeLine:=by rw[sizeLine_eq];decide
  have h13:(C6 1000000000000).length=13:=by
   have h1:(C6 1000000000000).length<=13:=(a0e (by decide)).mpr (by decide);have h2:¬(C6 1000000000000).length<=12:=λz=>absurd ((a0e (by decide)).mp z) (by decide);omega
  refine⟨_,(A1 (B3 (i:=2) sc_read_number.nd rfl (Or.inl rfl) (A7 O_read_figures (hr.mono (by omega)) rfl (jaC (jv 0) (jaC (a3g rfl T.b_len (jaC (a0U rfl T.b_str (jaC (jv 1) jaN)) jaN)) jaN))))
 (A1 (C0 (Z6 (T6 (X6 (jv 2) G9) (R1 (T7 (jv 2) (jv 1)))))
 (A5 (B0 G9))
 B6)
 (A5 (B0 (jv 2))))),?_⟩
  refine⟨_,rfl,_,rfl,1000000000000,rfl,by decide +kernel,_,rfl,by rw[h13];omega,x,13,by rw[h13];rfl,hx,by decide,λn H1 hn hl s1=>?_,λhno H1 s1=>?_⟩
  .dsimp only[A9];refine⟨_,rfl,rfl,_,rfl,?_⟩;rw[decide_eq_false (by intro z;cases z)];refine L6 ⟨_,rfl,_,rfl,_,_,rfl,rfl,_,rfl,C9 (λe=>?_) (λe=>?_)⟩
   .have e:=of_decide_eq_true e;have:=k H1 s1;rw[a3J λm hm=>?_]at this
    .exact this
    .have:=a1F (hn.symm.trans hm);omega
   .have e:¬((1000000000000:Int)<(n:Int)):=λz=>e (decide_eq_true z);have:=k H1 s1;rw[hn,a3I (by omega)]at this;exact⟨_,rfl,this⟩
  .dsimp only[A9];refine⟨_,rfl,rfl,_,rfl,?_⟩;rw[decide_eq_true rfl];have:=k H1 s1;rw[a3J λm hm h=>?_]at this
   .exact R5 this
   .have h1:=hno m hm;have h2:(C6 m).length<=13:=(a0e (by decide)).mpr (by omega);rw[hm]at h1;omega
def b4d:Sp:=λvs H Q _=>∃(w:Str),vs=[.str w]/\Wok w/\∀H',Same H H'->Q (.bl (decide (isNm w))) H'
theorem a4E:FnScope ["word"] ["word"] (A3 V6):=⟨rfl,rfl,rfl,by decide +kernel,rfl,by decide +kernel,by decide +kernel⟩
theorem a4L{tL:Tok}(F:FunAt K mg "is_name" V6 ["word"])(T:Tx mg)(M_LETTERS:mg "LETTERS"=some (.str lts tL)):Ok P w K mg base "is_name" 1 ["word"] b4d:=by
 refine F.okJ a4E (λvs H Q E h=>?_) (λcdv f A outer s H vs Q E hr h=>?_)
 .obtain⟨x,rfl,_⟩:=h;rfl
 .obtain⟨x,rfl,⟨ha,hl⟩,k⟩:=h;have hz:(100000:Nat)<=sizeLine:=by rw[sizeLine_eq];decide
  refine⟨_,(A5 (B0 (a1z (b0k A2 (a3g rfl T.b_len (jaC (jv 0) jaN)) A2) (a1w (a3i K rfl T.b_all (jaC (J2 (N:=["sign"]) (src:=[none]) (a5z (jv 0)) (by show D0 _ _=true;rfl) (by rfl) (by rfl)
 (λ_ _ _ _ _=>(A8 (i:=0) (show(["sign"]:List Str).Nodup by decide +kernel) rfl (Or.inl rfl))) (λ_ _ _ _ _=>E7) (λ_ _ _ _ _=>(a8v (jv 0) (a1y (v:=.str (Str.ofString "abcdefghijklmnopqrstuvwxyz")) rfl M_LETTERS ⟨_,rfl⟩) (by with_unfolding_all rfl)))) jaN)))))),?_⟩
  refine⟨_,rfl,_,rfl,by omega,_,_,rfl,rfl,_,rfl,C9 (λe=>?_) (λe=>?_)⟩
  .have e1:=of_decide_eq_true e;refine⟨_,_,rfl,rfl,_,rfl,C9 (λe=>?_) (λe=>?_)⟩
   .have e2:=of_decide_eq_true e;refine⟨_,rfl,_,rfl,ha,?_⟩;refine a3E (z:=lts) hl (λc H' N hN=>⟨_,rfl,c,lts,rfl,rfl,hN⟩) (λv=>Sub.one) λp hp=>?_;have s1:=(Same.refl H).upd (o:=.lst (x.cps.toList.map λc=>V.bl (decide (c∈lts.cps.toList)))) hp;refine⟨false,p,_,rfl,SqL.of A0,a1E _ _,?_⟩;rw[a2G];have:=k _ s1;rw[show decide (isNm x)=x.cps.toList.all (λc=>decide (c∈lts.cps.toList))from ?_]at this
    .exact this
    .rw[Bool.eq_iff_iff,decide_eq_true_iff,List.all_eq_true];constructor
     .intro h c hc;exact decide_eq_true ((a5u c).mpr (h.2.2 c hc))
     .intro h;exact⟨by omega,by omega,λc hc=>(a5u c).mp (of_decide_eq_true (h c hc))⟩
   .have:=k _ (Same.refl H);rw[decide_eq_false λh=>e (decide_eq_true (by have:=h.2.1;omega))]at this;exact this
  .have:=k _ (Same.refl H);rw[decide_eq_false λh=>e (decide_eq_true (by have:=h.1;omega))]at this;exact⟨_,rfl,L6 this⟩
end
end K46
namespace K46
open PySem PySem.Spec PyProof.Rows L2
def Lsts(H:Hp)(gs:List Addr)(L:List (List Str)):Prop:=gs.length=L.length/\∀(i:Nat) (a:Addr),gs[i]?=some a->∃l:List Str,L[i]?=some l/\H a=some (.lst (l.map V.str))
theorem Lsts.same{H H':Hp}{gs:List Addr}{L:List (List Str)}(h:Lsts H gs L)(s:Same H H'):Lsts H' gs L:=⟨h.1,λi a e=>let ⟨l,e1,e2⟩:=h.2 i a e;⟨l,e1,s _ _ e2⟩⟩
theorem Lsts.put{H:Hp}{gs:List Addr}{L:List (List Str)}{b:Addr}{o:HO}(h:Lsts H gs L)(hb:b∉gs):Lsts (upd H b o) gs L:=⟨h.1,λi a e=>let ⟨l,e1,e2⟩:=h.2 i a e;⟨l,e1,by rw[A6 λz=>hb (by rw[<-z];exact List.mem_of_getElem? e)];exact e2⟩⟩
theorem Lsts.snoc{H:Hp}{gs:List Addr}{L:List (List Str)}{b:Addr}{l:List Str}(h:Lsts H gs L)(hb:H b=some (.lst (l.map V.str))):Lsts H (gs++[b]) (L++[l]):=by
 refine⟨by simp[h.1],λi a e=>?_⟩;rcases Nat.lt_or_ge i gs.length with hi|hi
 .rw[List.getElem?_append_left hi]at e;obtain⟨l',e1,e2⟩:=h.2 i a e;exact⟨l',by rw[List.getElem?_append_left (by rw[<-h.1];exact hi)];exact e1,e2⟩
 .rw[List.getElem?_append_right hi]at e;have:i-gs.length=0:=by
   have:=(List.getElem?_eq_some_iff.mp e).1;simpa using this
  rw[this]at e;cases e;exact⟨l,by rw[List.getElem?_append_right (by rw[<-h.1];exact hi),<-h.1,this];rfl,hb⟩
structure PrtI(H0 H:Hp)(g:Addr)(D:List (List Str))(c:List Str)(ds:List Addr)(cu:Addr):Prop where
 hg:H g=some (.lst (ds.map V.ref++[V.ref cu]))
 hd:Lsts H ds D
 hc:H cu=some (.lst (c.map V.str))
 nd:cu∉ds
 ng:g∉ds
 gc:g≠cu
 fg:H0 g=none
 fc:H0 cu=none
 sm:Same H0 H
theorem a5f{γ:Type}(f:Int->Int->Int)(g:Int->γ):∀xs ys:List Int,List.zipWith (λa b=>g (f a b)) xs ys=(List.zipWith f xs ys).map g
 |[],_=>rfl
 |_::_,[]=>rfl
 |x::xs,y::ys=>by rw[List.zipWith_cons_cons,List.zipWith_cons_cons,List.map_cons,a5f f g xs ys]
section
variable {P:Program}{w:World}{K:PySem.W.Frag}{mg:Str->Option Value}{base:Heap}
def b1a(K:PySem.W.Frag):Sp:=λvs H Q _=>∃(p:Addr) (ws:List Str),vs=[.ref p]/\H p=some (.lst (ws.map V.str))/\ws.length<=10000/\∀g gs H',H' g=some (.lst (gs.map V.ref))->Lsts H' gs (prt ws)->Same H H'->Q (.ref g) H'
theorem sc_parted:FnScope ["words","groups","word"] ["words"] (A3 Z0):=⟨rfl,rfl,rfl,by decide +kernel,rfl,by decide +kernel,by decide +kernel⟩
theorem a5p(ws:List Str):∀s:List (List Str)×List Str,(ws.foldl E6 s).1.length+(ws.foldl E6 s).2.length<=s.1.length+s.2.length+ws.length:=by
 induction ws with
 |nil=>intro s;exact Nat.le_refl _
 |cons w r ih =>
  intro s;have:=ih (E6 s w);have h1:(E6 s w).1.length+(E6 s w).2.length<=s.1.length+s.2.length+1:=by
   unfold E6;split<;>simp<;>omega
  rw[List.foldl_cons,List.length_cons];omega
theorem a6h(F:FunAt K mg "parted" Z0 ["words"])(T:Tx mg):Ok P w K mg base "parted" 1 ["words"] (b1a K):=by
 refine F.okJ sc_parted (λvs H Q E h=>?_) (λcdv f A outer s H vs Q E hr h=>?_)
 .obtain⟨p,ws,rfl,_⟩:=h;rfl
 .obtain⟨p,ws,rfl,hp,hl,k⟩:=h;have hz:(100000:Nat)<=sizeLine:=by rw[sizeLine_eq];decide
  refine⟨_,(A1 (B3 (i:=1) sc_parted.nd rfl (Or.inl rfl) (C5 (jaC (C5 jaN) jaN)))
 (A1 (R3 (N3 K (jv 0)) (A8 (i:=2) sc_parted.nd rfl (Or.inl rfl))
 (A5 (C0 (N9 (jv 2) B2)
 (A5 (C4 (C8 K (jv 1) (jaC (C5 jaN) jaN))))
 (A5 (C4 (C8 K (J5 K (jv 1) (Q3 A2)) (jaC (jv 2) jaN)))))))
 (A5 (B0 (jv 1))))),?_⟩
  refine⟨Nat.zero_le _,λcu hcu=>⟨by show 1<=sizeLine;omega,λg hg=>?_⟩⟩;dsimp only[A9];have gcu:g≠cu:=λz=>by subst z;rw[A0]at hg;cases hg
  have hg0:H g=none:=by rw[A6 gcu]at hg;exact hg
  have s1:Same H (upd (upd H cu (.lst [])) g (.lst [V.ref cu])):=((Same.refl H).upd hcu).upd hg;refine⟨_,rfl,p,rfl,⟨_,SqL.of (s1 _ _ hp)⟩,?_⟩;refine a1D (K:=K) (a:=p) (xs:=ws.map V.str) (λi σ H'=>∃o ds cu,σ=[some (.ref p),some (.ref g),o]/\PrtI H H' g ((ws.take i).foldl E6 ([],[])).1 ((ws.take i).foldl E6 ([],[])).2 ds cu) ⟨none,[],cu,rfl,⟨A0,⟨rfl,λi a e=>(by cases e)⟩,by rw[A6 gcu.symm,A0];rfl,(λz=>nomatch z),(λz=>nomatch z),gcu,hg0,hcu,s1⟩⟩ (λi σ H' _ ⟨_,_,_,_,I⟩=>SqL.of (I.sm _ _ hp)) ?_ ?_
  .rintro i x σ H1 hx ⟨o,ds,cu1,rfl,I⟩;rw[List.getElem?_map]at hx;obtain⟨wd1,hw,rfl⟩:=Option.map_eq_some_iff.mp hx;have hi:=(List.getElem?_eq_some_iff.mp hw).1;have hst:(ws.take (i+1)).foldl E6 ([],[])=E6 ((ws.take i).foldl E6 ([],[])) wd1:=by
    rw[List.take_add_one,hw,List.foldl_append];rfl
   have hbd:=a5p (ws.take i) ([],[]);rw[hst];generalize (ws.take i).foldl E6 ([],[])=st at I hbd⊢;have hbd:st.1.length+st.2.length<=i:=by
    have:=List.length_take_le i ws;simp only[List.length_nil]at hbd;omega
   have hds:=I.hd.1;dsimp only[A9];refine⟨_,rfl,rfl,_,rfl,C9 (λe=>?_) (λe=>?_)⟩
   .injection of_decide_eq_true e with e
    refine⟨_,rfl,.inl ⟨rfl,_,SqL.of I.hg⟩,Nat.zero_le _,λn hn=>?_⟩;have ng:n≠g:=λz=>by rw[z,I.hg]at hn;cases hn
    have nc:n≠cu1:=λz=>by rw[z,I.hc]at hn;cases hn
    have nd:n∉ds:=λz=>by
     obtain⟨j,hj⟩:=List.getElem?_of_mem z;obtain⟨l,_,e2⟩:=I.hd.2 j n hj;rw[e2]at hn;cases hn
    refine⟨g,_,_,rfl,rfl,by rw[A6 ng.symm];exact I.hg,by simp;omega,?_⟩;refine⟨_,ds++[cu1],n,rfl,?_⟩;have e3:E6 st wd1=(st.1++[st.2],[]):=by unfold E6;rw[if_pos e]
    rw[e3];have fn:H n=none:=I.sm.free hn;refine⟨by rw[A0,List.map_append];rfl,?_,by rw[A6 ng,A0];rfl,?_,?_,ng.symm,I.fg,fn,?_⟩
    .refine Lsts.put (Lsts.put (I.hd.snoc I.hc) ?_) ?_
     .simp only[List.mem_append,List.mem_singleton,not_or];exact⟨nd,nc⟩
     .simp only[List.mem_append,List.mem_singleton,not_or];exact⟨I.ng,I.gc⟩
    .simp only[List.mem_append,List.mem_singleton,not_or];exact⟨nd,nc⟩
    .simp only[List.mem_append,List.mem_singleton,not_or];exact⟨I.ng,I.gc⟩
    .intro b o' hb;rw[A6 (show b≠g from A4 hb I.fg),A6 (show b≠n from A4 hb fn)];exact I.sm _ _ hb
   .have e:¬wd1=wd "+":=λz=>e (decide_eq_true (by rw[z]));have hat:atI (ds.map V.ref++[V.ref cu1]) (-1)=some (V.ref cu1):=by
     exact a1Q _ _
    refine⟨_,rfl,_,rfl,g,_,_,_,rfl,rfl,SqL.of I.hg,hat,.inl ⟨rfl,_,SqL.of I.hc⟩,_,rfl,cu1,_,_,rfl,rfl,I.hc,by simp;omega,?_⟩;refine⟨_,ds,cu1,rfl,?_⟩;have e3:E6 st wd1=(st.1,st.2++[wd1]):=by unfold E6;rw[if_neg e]
    rw[e3];refine⟨by rw[A6 I.gc];exact I.hg,I.hd.put I.nd,by rw[A0,List.map_append];rfl,I.nd,I.ng,I.gc,I.fg,I.fc,?_⟩;intro b o' hb;rw[A6 (show b≠cu1 from A4 hb I.fc)];exact I.sm _ _ hb
  .rintro σ H1 ⟨o,ds,cu1,rfl,I⟩;rw[List.length_map,List.take_length]at I;refine⟨_,rfl,?_⟩;refine k g (ds++[cu1]) H1 ?_ (I.hd.snoc I.hc) I.sm;rw[I.hg,List.map_append];rfl
theorem a4p(ys:List V):W9 ys none (some (-1))=ys.dropLast:=by
 unfold W9;have e:HT.sIx ys.length ys.length (some (-1))=ys.length-1:=by
  unfold HT.sIx;dsimp only;rw[if_pos (by decide)];omega
 rw[e,HT.sIx_none,List.drop_zero,Nat.sub_zero,List.dropLast_eq_take]
theorem a5E(x:Str)(xs:List Str):inV (V.str x) (xs.map V.str)=decide (x∈xs):=by
 unfold inV;rw[List.any_map,Bool.eq_iff_iff,List.any_eq_true,decide_eq_true_iff];constructor
 .rintro⟨y,hy,e⟩;have:y=x:=by simpa[eqV]using e
  rw[<-this];exact hy
 .intro h;exact⟨x,h,by simp[eqV]⟩
theorem W3(xs:List Str):(xs.map V.str).all I0=true:=by
 rw[List.all_map,List.all_eq_true];intro x _;rfl
def TrmAt(H:Hp)(v:V):Option (Nat×Int)->Prop
 |none=>v=.non
 |some (j,x)=>∃a,v=.ref a/\H a=some (.tup [.int j,.int x])
theorem TrmAt.same{H H':Hp}{v:V}:∀{r:Option (Nat×Int)},TrmAt H v r->Same H H'->TrmAt H' v r
 |none,h,_=>h
 |some (j,x),⟨a,e1,e2⟩,s=>⟨a,e1,s _ _ e2⟩
def b4a:Sp:=λvs H Q _=>∃(nt p:Addr) (ns ws:List Str),vs=[.ref nt,.ref p]/\H nt=some (.tup (ns.map V.str))/\H p=some (.lst (ws.map V.str))/\ns.length<=100/\Wks ws/\∀v H',TrmAt H' v (rdT ns ws)->Same H H'->Q v H'
theorem sc_read_term:FnScope ["names","words","place","figures","number"] ["names","words"] (A3 O4):=⟨rfl,rfl,rfl,by decide +kernel,rfl,by decide +kernel,by decide +kernel⟩
theorem a9g:Wok (wd "1"):=⟨by with_unfolding_all rfl,by decide⟩
theorem a2q{ws:List Str}{l:Str}(h:ws.getLast?=some l):atI (ws.map V.str) (-1)=some (V.str l):=by
 obtain⟨r,rfl⟩:=List.getLast?_eq_some_iff.mp h;rw[List.map_append];exact a1Q _ _
theorem b3l{K:PySem.W.Frag}{H:Hp}{ns:List Str}{l:Str}:∀(j:Nat) (z:V),(ns.map V.str)[j]?=some z->EqV K H 0 z (V.str l) ((ns[j]?).any (· == l)):=λj z hz=>by
 rw[List.getElem?_map]at hz;obtain⟨y,hy,rfl⟩:=Option.map_eq_some_iff.mp hz;rw[hy];exact EqV.flat rfl rfl
theorem a3k{ns:List Str}{l:Str}(h:l∈ns):ns.idxOf l<ns.length/\ns[ns.idxOf l]?=some l/\∀j,j<ns.idxOf l->(ns[j]?).any (· == l)=false:=by
 have h1:ns.idxOf l<ns.length:=List.idxOf_lt_length_of_mem h;refine⟨h1,?_,λj hj=>?_⟩
 .rw[List.getElem?_eq_getElem h1,List.getElem_idxOf h1]
 .have hjl:j<ns.length:=by omega
  rw[List.getElem?_eq_getElem hjl];have:=List.not_of_lt_findIdx (show j<ns.findIdx (· == l)from hj);simpa using this
theorem a2Z{tT:Tok}(F:FunAt K mg "read_term" O4 ["names","words"])(T:Tx mg)(M_TOP:mg "TOP"=some (.int 1000000000000 tT))(O_read_number:Ok P w K mg base "read_number" 3 ["word","top"] b1M):Ok P w K mg base "read_term" 4 ["names","words"] b4a:=by
 refine F.okJ sc_read_term (λvs H Q E h=>?_) (λcdv f A outer s H vs Q E hr h=>?_)
 .obtain⟨nt,p,ns,ws,rfl,_⟩:=h;rfl
 .obtain⟨nt,p,ns,ws,rfl,hn,hp,hnl,hw,k⟩:=h;have hu:=hr.u60;have hz:(100000:Nat)<=sizeLine:=by rw[sizeLine_eq];decide
  refine⟨_,(A1 (B3 (i:=2) sc_read_term.nd rfl (Or.inl rfl) (G0 K rfl T.b_len (jaC (jv 0) jaN)))
 (A1 (B3 (i:=3) sc_read_term.nd rfl (Or.inl rfl) (jv 1))
 (A1 (C0 (Z6 (a3e (T7 (G0 K rfl T.b_len (jaC (jv 1) jaN)) A2) (a0R (b2W K (J5 K (jv 1) (Q3 A2)) (jv 0) (by with_unfolding_all rfl)))))
 (A1 (B3 (i:=2) sc_read_term.nd rfl (Or.inl rfl) (a6t K hu (jv 0) (jaC (J5 K (jv 1) (Q3 A2)) jaN)))
 (A5 (B3 (i:=3) sc_read_term.nd rfl (Or.inl rfl) (a4h (T7 (G0 K rfl T.b_len (jaC (jv 1) jaN)) A2) (a0E K (jv 1) Q0 (P0 (Q3 A2))) (C5 (jaC B2 jaN))))))
 B6)
 (A1 (C0 (a3Y (G0 K rfl T.b_len (jaC (jv 3) jaN)) A2)
 (A5 (B0 G9))
 B6)
 (A1 (B3 (i:=4) sc_read_term.nd rfl (Or.inl rfl) (A7 O_read_number (hr.mono (by omega)) rfl (jaC (J5 K (jv 3) A2) (jaC (a1y (v:=.int 1000000000000) rfl M_TOP ⟨_,rfl⟩) jaN))))
 (A1 (C0 (Z6 (T6 (X6 (jv 4) G9) (R1 (N9 (jv 4) A2))))
 (A5 (B0 G9))
 B6)
 (A5 (B0 (a4e (jaC (jv 2) (jaC (jv 4) jaN))))))))))),?_⟩
  refine⟨_,rfl,nt,_,rfl,.inr (SqT.of hn),?_⟩;dsimp only[A9];refine⟨_,rfl,?_⟩;dsimp only[A9];refine S2 (λσ H'=>∃fp,σ=[some (.ref nt),some (.ref p),some (.int (pfT ns ws).1),some (.ref fp),none]/\H' fp=some (.lst ((pfT ns ws).2.map V.str))/\Wks (pfT ns ws).2/\Same H H') ?fin λfin=>?_
  case fin =>
   rintro σ H1 ⟨fp,rfl,hf,hwf,s1⟩;rw[show rdT ns ws=rdF (pfT ns ws).1 (pfT ns ws).2 from rfl]at k;generalize (pfT ns ws).1=j at k;generalize (pfT ns ws).2=fs at hf hwf k;refine⟨_,rfl,fp,_,rfl,.inl (SqL.of hf),rfl,_,rfl,C9 (λe=>?_) (λe=>?_)⟩
   .refine k _ _ ?_ s1
    match fs,e with
    |[],_=>rfl
    |[_],e=>exact absurd e (by rw[show decide (V.int (([_]:List Str).map V.str).length=V.int 1)=true from rfl];decide)
    |_::_::_,_=>rfl
   .obtain⟨f,rfl⟩:∃f,fs=[f]:=by
     match fs,e with
     |[],e=>exact absurd rfl e
     |[f],_=>exact⟨f,rfl⟩
     |_::_::r,e=>exact absurd (by rw[decide_eq_false];rfl;intro z;injection z with z;simp at z;omega) e
    refine⟨_,rfl,fp,_,0,_,rfl,rfl,SqL.of hf,L3 (j:=0) rfl,f,rfl,hwf.2 f List.mem_cons_self,λH2 s2=>?_⟩;dsimp only[A9];have s2:=s1.trans s2;cases er:rdN f with
    |none =>
     refine⟨_,rfl,rfl,_,rfl,R5 (k _ _ ?_ s2)⟩;show TrmAt _ _ (match rdN f with|some x=>if x=0 then none else some (j,x)|none=>none);rw[er];rfl
    |some x =>
     refine⟨_,rfl,rfl,_,rfl,?_⟩;rw[decide_eq_false (by intro z;cases z)];refine L6 ⟨_,rfl,rfl,_,rfl,C9 (λe=>?_) (λe=>?_)⟩
     .refine k _ _ ?_ s2;show TrmAt _ _ (match rdN f with|some x=>if x=0 then none else some (j,x)|none=>none);have e:x=0:=V.int.inj (of_decide_eq_true e);rw[er];dsimp only;rw[if_pos e];rfl
     .refine⟨_,rfl,_,rfl,by show 2<=sizeLine;omega,λq hq=>k _ _ ?_ (s2.upd hq)⟩;show TrmAt _ _ (match rdN f with|some x=>if x=0 then none else some (j,x)|none=>none);rw[er];dsimp only;rw[if_neg λz=>e (decide_eq_true (by rw[z];rfl))];exact⟨q,rfl,A0⟩
  refine⟨_,rfl,p,_,rfl,.inl (SqL.of hp),_,_,rfl,rfl,_,rfl,C9 (λe=>?_) (λe=>?_)⟩
  .have e:=of_decide_eq_true e;obtain⟨l,hl⟩:∃l,ws.getLast?=some l:=by
    cases hq:ws.getLast? with
    |none=>rw[List.getLast?_eq_none_iff.mp hq]at e;simp at e
    |some l=>exact⟨l,rfl⟩
   refine⟨_,rfl,_,rfl,p,_,_,_,rfl,rfl,SqL.of hp,a2q hl,_,rfl,nt,_,rfl,.inr (SqT.of hn),rfl,W3 ns,?_⟩;rw[a5E];refine⟨_,rfl,C9 (λe=>?_) (λe=>?_)⟩
   .have hm:l∈ns:=of_decide_eq_true e;obtain⟨i1,i2,i3⟩:=a3k hm;refine⟨_,rfl,⟨nt,_,rfl,hn⟩,_,rfl,_,rfl,p,_,_,_,rfl,rfl,SqL.of hp,a2q hl,nt,_,_,0,λj=>(ns[j]?).any (· == l),ns.idxOf l,rfl,rfl,hn,by decide,b3l,by rw[List.length_map];exact i1,by simp[i2],i3,?_⟩;dsimp only[A9];have hpf:pfT ns ws=(ns.idxOf l,if ws.length > 1 then ws.dropLast else[wd "1"]):=by
     unfold pfT;rw[hl];dsimp only;rw[if_pos hm]
    refine⟨_,rfl,p,_,rfl,.inl (SqL.of hp),_,_,rfl,rfl,_,rfl,C9 (λe=>?_) (λe=>?_)⟩
    .have e:=of_decide_eq_true e;have hlw:ws.length > 1:=by rw[List.length_map]at e;omega
     rw[if_pos hlw]at hpf;dsimp only[M5];refine⟨_,rfl,_,rfl,_,rfl,p,_,rfl,SqL.of hp,λp1 hp1=>?_⟩;rw[a4p,<-List.map_dropLast];dsimp only[A9];refine fin _ _ ⟨p1,by rw[hpf];rfl,by rw[hpf];exact A0,by rw[hpf];exact⟨by have:=hw.1;rw[List.length_dropLast];omega,λx hx=>hw.2 x ((List.dropLast_sublist ws).mem hx)⟩,(Same.refl H).upd hp1⟩
    .have e:¬ws.length > 1:=λz=>e (decide_eq_true (by rw[List.length_map];omega));rw[if_neg e]at hpf;refine⟨by show 1<=sizeLine;omega,λp1 hp1=>?_⟩;dsimp only[A9];refine fin _ _ ⟨p1,by rw[hpf];rfl,by rw[hpf];exact A0,by rw[hpf];exact⟨by show 1<=10000;decide,λx hx=>by rw[List.mem_singleton.mp hx];exact a9g⟩,(Same.refl H).upd hp1⟩
   .have hm:¬l∈ns:=λz=>e (decide_eq_true z);have hpf:pfT ns ws=(ns.length,ws):=by
     unfold pfT;rw[hl];dsimp only;rw[if_neg hm]
    refine fin _ _ ⟨p,by rw[hpf,List.length_map];rfl,by rw[hpf];exact hp,by rw[hpf];exact hw,Same.refl H⟩
  .have hpf:pfT ns ws=(ns.length,ws):=by
    have:ws=[]:=by
     match ws,e with
     |[],_=>rfl
     |a::r,e=>exact absurd (decide_eq_true (by simp)) e
    subst this;rfl
   refine fin _ _ ⟨p,by rw[hpf,List.length_map];rfl,by rw[hpf];exact hp,by rw[hpf];exact hw,Same.refl H⟩
theorem b0F{ns ms:List Str}:((List.range (min ns.length ms.length)).all (λj=>(ns[j]? == ms[j]?)) && ns.length==ms.length)=decide (ns=ms):=by
 rw[Bool.eq_iff_iff];simp only[Bool.and_eq_true,List.all_eq_true,List.mem_range,decide_eq_true_eq,beq_iff_eq];constructor
 .rintro⟨h1,h2⟩;refine List.ext_getElem? λi=>?_;by_cases hi:i<ns.length
  .exact h1 i (by omega)
  .rw[List.getElem?_eq_none (by omega),List.getElem?_eq_none (by omega)]
 .rintro rfl;exact⟨λ_ _=>rfl,rfl⟩
theorem EqV.strs{H:Hp}{k:Bool}{a b:Addr}{ns ms:List Str}(ha:SqK k K H a (ns.map V.str))(hb:SqK k K H b (ms.map V.str)):EqV K H 1 (.ref a) (.ref b) (decide (ns=ms)):=by
 have step:∀j x y,(ns.map V.str)[j]?=some x->(ms.map V.str)[j]?=some y->EqV K H 0 x y (ns[j]? == ms[j]?):=λj x y hx hy=>by
  rw[List.getElem?_map]at hx hy;obtain⟨u,hu,rfl⟩:=Option.map_eq_some_iff.mp hx;obtain⟨v,hv,rfl⟩:=Option.map_eq_some_iff.mp hy;rw[hu,hv];exact EqV.flat (K:=K) (H:=H) (n:=0) (x:=.str u) (y:=.str v) rfl rfl
 rw[<-b0F];cases k
 .have:=EqV.lst (λj=>(ns[j]? == ms[j]?)) ha hb step;simpa using this
 .have:=EqV.tup (λj=>(ns[j]? == ms[j]?)) ha hb step;simpa using this
def TtAt(H:Hp)(v:V):Option (List Int)->Prop
 |none=>v=.non
 |some l=>∃a,v=.ref a/\H a=some (.lst (l.map V.int))
theorem TtAt.same{H H':Hp}{v:V}:∀{r:Option (List Int)},TtAt H v r->Same H H'->TtAt H' v r
 |none,h,_=>h
 |some l,⟨a,e1,e2⟩,s=>⟨a,e1,s _ _ e2⟩
theorem b2k(ns ws:List Str):(pfT ns ws).1<=ns.length:=by
 unfold pfT;split
 .split
  .exact List.idxOf_le_length
  .exact Nat.le_refl _
 .exact Nat.le_refl _
theorem a9q{j k:Nat}{x:Int}{fs:List Str}(h:rdF j fs=some (k,x)):k=j/\0<x/\x<=topN:=by
 match fs with
 |[]=>cases h
 |[f] =>
  change (match rdN f with|some x=>if x=0 then none else some (j,x)|none=>none)=some (k,x)at h;cases e:rdN f with
  |none=>rw[e]at h;cases h
  |some y =>
   rw[e]at h;dsimp only at h;split at h
   .cases h
   .cases h;obtain⟨h1,h2,_⟩:=a9p e;exact⟨rfl,by omega,h2⟩
 |_::_::_=>cases h
theorem a9o{ns ws:List Str}{k:Nat}{x:Int}(h:rdT ns ws=some (k,x)):k<=ns.length/\0<x/\x<=topN:=by
 obtain⟨e,h1⟩:=a9q h;exact⟨by rw[e];exact b2k ns ws,h1⟩
def Trms(ns:List Str)(H:Hp)(ys:List V)(L:List (List Str)):Prop:=ys.length=L.length/\∀(i:Nat) (v:V),ys[i]?=some v->∃l,L[i]?=some l/\TrmAt H v (rdT ns l)
theorem Trms.same{ns:List Str}{H H':Hp}{ys:List V}{L:List (List Str)}(h:Trms ns H ys L)(s:Same H H'):Trms ns H' ys L:=⟨h.1,λi v e=>let ⟨l,e1,e2⟩:=h.2 i v e;⟨l,e1,e2.same s⟩⟩
theorem Trms.any{ns:List Str}{H:Hp}{ys:List V}{L:List (List Str)}(h:Trms ns H ys L):ys.any b0x=!((L.map (rdT ns)).all Option.isSome):=by
 rw[Bool.eq_iff_iff,Bool.not_eq_true',List.any_eq_true,<-Bool.not_eq_true,List.all_eq_true];constructor
 .rintro⟨v,hv,e⟩ hall;obtain⟨i,hi⟩:=List.getElem?_of_mem hv;obtain⟨l,h1,h2⟩:=h.2 i v hi;have:=hall (rdT ns l) (List.mem_map.mpr ⟨l,List.mem_of_getElem? h1,rfl⟩);cases hr:rdT ns l with
  |none=>rw[hr]at this;cases this
  |some q =>
   rw[hr]at h2;obtain⟨a,rfl,_⟩:=h2;cases e
 .intro hno;refine Classical.byContradiction λhn=>hno λr hr=>?_;obtain⟨l,hl,rfl⟩:=List.mem_map.mp hr;obtain⟨i,hi⟩:=List.getElem?_of_mem hl;have hil:i<ys.length:=by rw[h.1];exact(List.getElem?_eq_some_iff.mp hi).1
  obtain⟨l',h1,h2⟩:=h.2 i _ (List.getElem?_eq_getElem hil);rw[hi]at h1;cases h1;cases hr:rdT ns l with
  |some q=>rfl
  |none =>
   rw[hr]at h2;exact absurd ⟨ys[i],List.getElem_mem hil,by rw[show ys[i]=V.non from h2];rfl⟩ hn
theorem fm_all{ns:List Str}:∀{L:List (List Str)},(L.map (rdT ns)).all Option.isSome=true->∃ps:List (Nat×Int),L.filterMap (rdT ns)=ps/\ps.length=L.length/\∀(i:Nat) l,L[i]?=some l->∃q,ps[i]?=some q/\rdT ns l=some q
 |[],_=>⟨[],rfl,rfl,λi l h=>(by cases h)⟩
 |l::L,h=>by
  rw[List.map_cons,List.all_cons,Bool.and_eq_true]at h;obtain⟨h1,h2⟩:=h;obtain⟨ps,e1,e2,e3⟩:=fm_all h2;obtain⟨q,hq⟩:=Option.isSome_iff_exists.mp h1;refine⟨q::ps,by rw[List.filterMap_cons,hq];dsimp only;rw[e1],by simp[e2],λi l' hl=>?_⟩;cases i with
  |zero=>cases hl;exact⟨q,rfl,hq⟩
  |succ i=>exact e3 i l' hl
theorem a2H(t:List Int)(p:Nat×Int):(E4 t p).length=t.length:=by unfold E4;simp
theorem I9(ps:List (Nat×Int)):∀t:List Int,(ps.foldl E4 t).length=t.length:=by
 induction ps with
 |nil=>intro t;rfl
 |cons p r ih=>intro t;rw[List.foldl_cons,ih,a2H]
theorem Trms.snoc{ns:List Str}{H:Hp}{ys:List V}{L:List (List Str)}{v:V}{l:List Str}(h:Trms ns H ys L)(hv:TrmAt H v (rdT ns l)):Trms ns H (ys++[v]) (L++[l]):=by
 refine⟨by simp[h.1],λi u e=>?_⟩;rcases Nat.lt_or_ge i ys.length with hi|hi
 .rw[List.getElem?_append_left hi]at e;obtain⟨l',e1,e2⟩:=h.2 i u e;exact⟨l',by rw[List.getElem?_append_left (by rw[<-h.1];exact hi)];exact e1,e2⟩
 .rw[List.getElem?_append_right hi]at e;have:i-ys.length=0:=by
   have:=(List.getElem?_eq_some_iff.mp e).1;simpa using this
  rw[this]at e;cases e;exact⟨l,by rw[List.getElem?_append_right (by rw[<-h.1];exact hi),<-h.1,this];rfl,hv⟩
def b0X:Sp:=λvs H Q _=>∃(nt p:Addr) (ns ws:List Str),vs=[.ref nt,.ref p]/\H nt=some (.tup (ns.map V.str))/\H p=some (.lst (ws.map V.str))/\ns.length<=100/\Wks ws/\∀v H',TtAt H' v (U0 ns ws)->Same H H'->Q v H'
theorem sc_read_terms:FnScope ["names","words","totals","terms","place","number"] ["names","words"] (A3 M7):=⟨rfl,rfl,rfl,by decide +kernel,rfl,by decide +kernel,by decide +kernel⟩
theorem a9y{ws:List Str}(h:∀x∈ws,Wok x):∀(s:List (List Str)×List Str),(∀l∈s.1,∀x∈l,Wok x)->(∀x∈s.2,Wok x)->(∀l∈(ws.foldl E6 s).1,∀x∈l,Wok x)/\∀x∈(ws.foldl E6 s).2,Wok x:=by
 induction ws with
 |nil=>intro s h1 h2;exact⟨h1,h2⟩
 |cons w r ih =>
  intro s h1 h2;refine ih (λx hx=>h x (List.mem_cons_of_mem _ hx)) (E6 s w) ?_ ?_
  .unfold E6;split
   .intro l hl;rcases List.mem_append.mp hl with z|z
    .exact h1 l z
    .rw[List.mem_singleton.mp z];exact h2
   .exact h1
  .unfold E6;split
   .intro x hx;cases hx
   .intro x hx;rcases List.mem_append.mp hx with z|z
    .exact h2 x z
    .rw[List.mem_singleton.mp z];exact h w List.mem_cons_self
theorem a7I(ws:List Str):∀(s:List (List Str)×List Str) (B:Nat),(∀l∈s.1,l.length<=B)->s.2.length+ws.length<=B->(∀l∈(ws.foldl E6 s).1,l.length<=B)/\(ws.foldl E6 s).2.length<=B:=by
 induction ws with
 |nil=>intro s B h1 h2;exact⟨h1,h2⟩
 |cons w r ih =>
  intro s B h1 h2;rw[List.length_cons]at h2;refine ih (E6 s w) B ?_ ?_
  .unfold E6;split
   .intro l hl;rcases List.mem_append.mp hl with z|z
    .exact h1 l z
    .rw[List.mem_singleton.mp z];omega
   .exact h1
  .unfold E6;split
   .simp;omega
   .simp;omega
theorem a9x{ws:List Str}(h:Wks ws):(∀l∈prt ws,Wks l)/\(prt ws).length<=10001:=by
 obtain⟨m1,m2⟩:=a9y h.2 ([],[]) (λl hl=>nomatch hl) (λx hx=>nomatch hx);obtain⟨l1,l2⟩:=a7I ws ([],[]) 10000 (λl hl=>nomatch hl) (by have:=h.1;simp;omega);have hb:=a5p ws ([],[]);refine⟨λl hl=>?_,?_⟩
 .rcases List.mem_append.mp hl with z|z
  .exact⟨l1 l z,m1 l z⟩
  .rw[List.mem_singleton.mp z];exact⟨l2,m2⟩
 .unfold prt;have:=h.1;simp only[List.length_nil]at hb;simp only[List.length_append,List.length_singleton];omega
theorem a1Z(F:FunAt K mg "read_terms" M7 ["names","words"])(T:Tx mg)(O_read_term:Ok P w K mg base "read_term" 4 ["names","words"] b4a)(O_parted:Ok P w K mg base "parted" 1 ["words"] (b1a K)):Ok P w K mg base "read_terms" 5 ["names","words"] b0X:=by
 refine F.okJ sc_read_terms (λvs H Q E h=>?_) (λcdv f A outer s H vs Q E hr h=>?_)
 .obtain⟨nt,p,ns,ws,rfl,_⟩:=h;rfl
 .obtain⟨nt,p,ns,ws,rfl,hn,hp,hnl,hw,k⟩:=h;have hu:=hr.u60;have hz:(100000:Nat)<=sizeLine:=by rw[sizeLine_eq];decide
  refine⟨_,(A1 (B3 (i:=2) sc_read_terms.nd rfl (Or.inl rfl) (b1s (C5 (jaC A2 jaN)) (O1 (G0 K rfl T.b_len (jaC (jv 0) jaN)) A2)))
 (A1 (C0 (b2X K hu (jv 1) (C5 (jaC B2 jaN)))
 (A5 (B0 (jv 2)))
 B6)
 (A1 (O9 (i:=3) sc_read_terms.nd rfl (Or.inl rfl) (N:=["group","names"]) (src:=[none,some 0]) (N3 K (A7 O_parted (hr.mono (by omega)) rfl (jaC (jv 1) jaN))) (by show D0 _ _=true;rfl) (by rfl) (by rfl)
 (λ_ _ _ _ _=>(A8 (i:=0) (show(["group","names"]:List Str).Nodup by decide +kernel) rfl (Or.inl rfl))) (λ_ _ _ _ _=>E7) (λ_ _ _ _ _=>(A7 O_read_term (hr.mono (by omega)) rfl (jaC (jv 1) (jaC (jv 0) jaN)))))
 (A1 (C0 (b2V K hu G9 (jv 3) (by with_unfolding_all rfl))
 (A5 (B0 G9))
 B6)
 (A1 (R3 (N3 K (jv 3)) (K4 K 2 (B1 (A8 (i:=4) sc_read_terms.nd rfl (Or.inl rfl)) (B1 (A8 (i:=5) sc_read_terms.nd rfl (Or.inl rfl)) E8)))
 (A5 (a4P K (jv 2) (jv 4) (jv 5))))
 (A5 (B0 (jv 2)))))))),?_⟩
  refine⟨by show 1<=sizeLine;omega,λp1 hp1=>?_⟩;have s1:=(Same.refl H).upd (o:=.lst [V.int 0]) hp1;have e1:upd H p1 (.lst [V.int 0]) p1=some (.lst [V.int 0]):=A0;generalize upd H p1 (.lst [V.int 0])=H1 at s1 e1;refine⟨_,rfl,nt,_,rfl,.inr (SqT.of (s1 _ _ hn)),_,_,rfl,rfl,p1,_,_,rfl,rfl,e1,by rw[List.length_map];omega,by rw[List.length_map];omega,by rw[List.length_map];simp;omega,λt ht=>?_⟩;dsimp only[A9];have hrep:(List.replicate ((((ns.map V.str).length:Int)+1).toNat) [V.int 0]).flatten=(List.replicate (ns.length+1) (0:Int)).map V.int:=by
   rw[List.length_map,show((ns.length:Int)+1).toNat=ns.length+1 by omega];generalize ns.length+1=m;induction m with
   |zero=>rfl
   |succ m ih=>rw[List.replicate_succ,List.flatten_cons,ih];rfl
  rw[hrep];have ht0:H t=none:=s1.free ht;have s2:=s1.upd (o:=.lst ((List.replicate (ns.length+1) (0:Int)).map V.int)) ht;have e2:upd H1 t (.lst ((List.replicate (ns.length+1) (0:Int)).map V.int)) t=some (.lst ((List.replicate (ns.length+1) (0:Int)).map V.int)):=A0;generalize upd H1 t (.lst ((List.replicate (ns.length+1) (0:Int)).map V.int))=H2 at s2 e2;refine⟨_,rfl,by show 1<=sizeLine;omega,λp3 hp3=>?_⟩;have s3:=s2.upd (o:=.lst [V.str (wd "0")]) hp3;have e3:=G8 (o:=.lst [V.str (wd "0")]) e2 hp3;have hq3:EqV K (upd H2 p3 (.lst [V.str (wd "0")])) 1 (.ref p) (.ref p3) (decide (ws=[wd "0"])):=EqV.strs (k:=false) (SqL.of (s3 _ _ hp)) (SqL.of A0);generalize upd H2 p3 (.lst [V.str (wd "0")])=H3 at s3 e3 hq3;refine⟨1,_,by decide,hq3,⟨_,_,rfl,rfl⟩,_,rfl,C9 (λe=>?_) (λe=>?_)⟩
  .have e:ws=[wd "0"]:=of_decide_eq_true e;refine⟨_,rfl,k _ _ ?_ s3⟩;unfold U0;rw[if_pos e];exact⟨t,rfl,e3⟩
  have hne:¬ws=[wd "0"]:=λz=>e (decide_eq_true z);obtain⟨wk,wl⟩:=a9x hw;refine⟨_,rfl,p,ws,rfl,s3 _ _ hp,hw.1,λg gs H4 hg hL s4=>?_⟩;have s4':=s3.trans s4;have e4:=s4 _ _ e3;generalize hLL:prt ws=L at hL wk wl;refine⟨g,rfl,⟨_,SqL.of hg⟩,?_⟩;refine W4 (K:=K) (a:=g) (xs:=gs.map V.ref) (by rw[List.length_map,hL.1];omega) (λi ys H'=>Same H4 H'/\Trms ns H' ys (L.take i)) ⟨Same.refl _,rfl,λi v e=>(by cases e)⟩ (λi ys H' hi h=>⟨SqL.of (h.1 _ _ hg),by rw[h.2.1];exact List.length_take_le _ _⟩) ?_ ?_
  .rintro i x ys H5 hx ⟨s5,hT⟩;rw[List.getElem?_map]at hx;obtain⟨a,ha,rfl⟩:=Option.map_eq_some_iff.mp hx;obtain⟨l,hl,hal⟩:=hL.2 i a ha;refine⟨Sub.one,?_⟩;refine⟨_,rfl,_,rfl,nt,a,ns,l,rfl,s5 _ _ (s4' _ _ hn),s5 _ _ hal,hnl,wk l (List.mem_of_getElem? hl),λv H6 hv s6=>⟨s5.trans s6,?_⟩⟩;rw[List.take_add_one,hl];exact(hT.same s6).snoc hv
  .rintro ys H5 ⟨s5,hT⟩ p6 hp6;rw[List.length_map,hL.1,List.take_length]at hT;have s6:=s5.upd (o:=.lst ys) hp6;have e6:upd H5 p6 (.lst ys) p6=some (.lst ys):=A0;have hT6:=hT.same ((Same.refl H5).upd (o:=.lst ys) hp6);have t6:p6≠t:=λz=>by
    have:=s5 _ _ e4;rw[z,this]at hp6;cases hp6
   generalize upd H5 p6 (.lst ys)=H6 at s6 e6 hT6;have s6':=s4'.trans s6;have e46:=s6 _ _ e4;dsimp only[A9];refine⟨_,rfl,p6,ys,rfl,rfl,SqL.of e6,λv hv=>?_,_,rfl,?_⟩
   .obtain⟨i,hi⟩:=List.getElem?_of_mem hv;obtain⟨l,_,h2⟩:=hT6.2 i v hi;cases hr:rdT ns l with
    |none=>rw[hr]at h2;exact .inl h2
    |some q=>rw[hr]at h2;obtain⟨a,e1,e2⟩:=h2;exact .inr ⟨a,_,e1,e2⟩
   rw[hT6.any];refine C9 (λe=>?_) (λe=>?_)
   .refine k _ _ ?_ s6';unfold U0;rw[if_neg hne,hLL,if_neg (by simpa using e)];rfl
   have hall:(L.map (rdT ns)).all Option.isSome=true:=by
    cases hq:(L.map (rdT ns)).all Option.isSome with
    |true=>rfl
    |false=>rw[hq]at e;exact absurd rfl e
   obtain⟨ps,f1,f2,f3⟩:=fm_all hall;have hrd:U0 ns ws=some (ps.foldl E4 (List.replicate (ns.length+1) 0)):=by
    unfold U0;rw[if_neg hne,hLL,if_pos hall,f1]
   refine⟨_,rfl,p6,rfl,⟨_,SqL.of e6⟩,?_⟩;refine a1D (K:=K) (a:=p6) (xs:=ys) (λi σ H'=>∃o4 o5,σ=[some (.ref nt),some (.ref p),some (.ref t),some (.ref p6),o4,o5]/\H' t=some (.lst (((ps.take i).foldl E4 (List.replicate (ns.length+1) 0)).map V.int))/\Off [t] H6 H') ⟨_,_,rfl,e46,Off.refl _ _⟩ (λi σ H' _ ⟨_,_,_,_,o⟩=>SqL.of (o _ _ (by simpa using t6) e6)) ?_ ?_
   .rintro i x σ H7 hx ⟨o4,o5,rfl,e7,off7⟩;obtain⟨l,hl,h2⟩:=hT6.2 i x hx;obtain⟨q,hq1,hq2⟩:=f3 i l hl;obtain⟨j,y⟩:=q;rw[hq2]at h2;obtain⟨a,rfl,ha⟩:=h2;obtain⟨b1,b2,b3⟩:=a9o hq2;have at_:a≠t:=a0B ha e46 (by intro z;cases z);have ha7:=off7 _ _ (by simpa using at_) ha;refine⟨a,_,rfl,SqT.of ha7,rfl,_,_,rfl,_,_,rfl,rfl,?_⟩;dsimp only[A9];rw[show(ps.take (i+1)).foldl E4 (List.replicate (ns.length+1) 0)=E4 ((ps.take i).foldl E4 (List.replicate (ns.length+1) 0)) (j,y) by rw[List.take_add_one,hq1,List.foldl_append];rfl];have hlen:=I9 (ps.take i) (List.replicate (ns.length+1) 0);generalize (ps.take i).foldl E4 (List.replicate (ns.length+1) 0)=tt at e7 hlen;rw[List.length_replicate]at hlen;have hj:j<tt.length:=by omega
    have hat:atI (tt.map V.int) (j:Int)=some (V.int tt[j]):=L3 (by rw[List.getElem?_map,List.getElem?_eq_getElem hj];rfl);refine⟨_,rfl,_,rfl,t,_,_,_,rfl,rfl,SqL.of e7,hat,_,rfl,_,_,rfl,rfl,t,_,_,j,rfl,rfl,e7,?_⟩;have hix:ixN (tt.map V.int).length (j:Int)=some j:=by
     unfold ixN;rw[List.length_map,if_pos (by omega),if_pos (by omega)];simp
    refine⟨hix,_,_,rfl,?_,off7.set (by simp)⟩;rw[A0];unfold E4;rw[List.map_set,List.getD_eq_getElem?_getD,List.getElem?_eq_getElem hj];rfl
   .rintro σ H7 ⟨o4,o5,rfl,e7,off7⟩;rw[show ys.length=ps.length by rw[hT6.1,f2],List.take_length]at e7;refine⟨_,rfl,k _ _ ?_ λb o hb=>off7 _ _ ?_ (s6' _ _ hb)⟩
    .rw[hrd];exact⟨t,rfl,e7⟩
    .simpa using A4 hb ht0
theorem a1K(x:Str):∀ws:List Str,((ws.map V.str).countP λz=>eqV z (V.str x))=ws.count x
 |[]=>rfl
 |w::r=>by
  rw[List.map_cons,List.countP_cons,List.count_cons,a1K x r];rfl
theorem cut_hi(ws:List Str)(m:Nat)(h:m<=ws.length):W9 (ws.map V.str) none (some (m:Int))=(ws.take m).map V.str:=by
 unfold W9;rw[HT.sIx_none,HT.sIx_nat,List.drop_zero,Nat.sub_zero,List.length_map,Nat.min_eq_left h,List.map_take]
theorem cut_lo(ws:List Str)(m:Nat)(h:m<=ws.length):W9 (ws.map V.str) (some (m:Int)) none=(ws.drop m).map V.str:=by
 unfold W9;rw[HT.sIx_none,HT.sIx_nat,List.length_map,Nat.min_eq_left h,List.map_drop,List.take_of_length_le (by rw[List.length_drop,List.length_map];omega)]
theorem Z1{ns ws:List Str}{l:List Int}(h:U0 ns ws=some l):l.length=ns.length+1:=by
 unfold U0 at h;split at h
 .cases h;simp
 .split at h
  .cases h;rw[I9];simp
  .cases h
theorem a5Q(l:List Int):(∀x∈l.map (λi:Int=>if i<0 then -i else i),x<=topN)↔∀x∈l,-topN<=x/\x<=topN:=by
 constructor
 .intro h x hx;have:=h _ (List.mem_map.mpr ⟨x,hx,rfl⟩);split at this<;>(constructor<;>(try unfold topN)<;>(unfold topN at this;omega))
 .intro h x hx;obtain⟨y,hy,rfl⟩:=List.mem_map.mp hx;obtain⟨h1,h2⟩:=h y hy;split<;>(unfold topN at *;omega)
def b4b:Sp:=λvs H Q _=>∃(nt p:Addr) (ns ws:List Str),vs=[.ref nt,.ref p]/\H nt=some (.tup (ns.map V.str))/\H p=some (.lst (ws.map V.str))/\ns.length<=100/\Wks ws/\∀v H',TtAt H' v (M0 ns ws)->(∀a,v=.ref a->H a=none)->Same H H'->Q v H'
theorem sc_read_sum:FnScope ["names","words","middle","left","right","rest"] ["names","words"] (A3 S5):=⟨rfl,rfl,rfl,by decide +kernel,rfl,by decide +kernel,by decide +kernel⟩
theorem a3P{tT:Tok}(F:FunAt K mg "read_sum" S5 ["names","words"])(T:Tx mg)(M_TOP:mg "TOP"=some (.int 1000000000000 tT))(O_read_terms:Ok P w K mg base "read_terms" 5 ["names","words"] b0X):Ok P w K mg base "read_sum" 6 ["names","words"] b4b:=by
 refine F.okJ sc_read_sum (λvs H Q E h=>?_) (λcdv f A outer s H vs Q E hr h=>?_)
 .obtain⟨nt,p,ns,ws,rfl,_⟩:=h;rfl
 .obtain⟨nt,p,ns,ws,rfl,hn,hp,hnl,hw,k⟩:=h;have hu:=hr.u60;have hz:(100000:Nat)<=sizeLine:=by rw[sizeLine_eq];decide
  refine⟨_,(A1 (C0 (a3Y (a8x K hu (jv 1) (jaC B2 jaN)) A2)
 (A5 (B0 G9))
 B6)
 (A1 (B3 (i:=2) sc_read_sum.nd rfl (Or.inl rfl) (a6u K hu (jv 1) (jaC B2 jaN)))
 (A1 (B3 (i:=3) sc_read_sum.nd rfl (Or.inl rfl) (A7 O_read_terms (hr.mono (by omega)) rfl (jaC (jv 0) (jaC (a0E K (jv 1) Q0 (P0 (jv 2))) jaN))))
 (A1 (B3 (i:=4) sc_read_sum.nd rfl (Or.inl rfl) (A7 O_read_terms (hr.mono (by omega)) rfl (jaC (jv 0) (jaC (a0E K (jv 1) (P0 (O1 (jv 2) A2)) Q0) jaN))))
 (A1 (C0 (Z6 (T6 (X6 (jv 3) G9) (R1 (X6 (jv 4) G9))))
 (A5 (B0 G9))
 B6)
 (A1 (O9 (i:=5) sc_read_sum.nd rfl (Or.inl rfl) (N:=["a","b"]) (src:=[none,none]) (T3 K rfl T.b_zip (jaC (jv 3) (jaC (jv 4) jaN))) (by show D0 _ _=true;rfl) (by rfl) (by rfl)
 (λ_ _ _ _ _=>(K4 K 2 (B1 (A8 (i:=0) (show(["a","b"]:List Str).Nodup by decide +kernel) rfl (Or.inl rfl)) (B1 (A8 (i:=1) (show(["a","b"]:List Str).Nodup by decide +kernel) rfl (Or.inl rfl)) E8)))) (λ_ _ _ _ _=>E7) (λ_ _ _ _ _=>(a4f (jv 0) (jv 1))))
 (A5 (B0 (a4h (b4H (b0n K rfl T.b_max (jaC (J2 (N:=["number"]) (src:=[none]) (N3 K (jv 5)) (by show D0 _ _=true;rfl) (by rfl) (by rfl)
 (λ_ _ _ _ _=>(A8 (i:=0) (show(["number"]:List Str).Nodup by decide +kernel) rfl (Or.inl rfl))) (λ_ _ _ _ _=>E7) (λ_ _ _ _ _=>(a3j rfl T.b_abs (jaC (jv 0) jaN)))) jaN)) (a1y (v:=.int 1000000000000) rfl M_TOP ⟨_,rfl⟩)) (jv 5) G9))))))))),?_⟩
  refine⟨_,rfl,.inl ⟨rfl,_,SqL.of hp⟩,p,_,_,rfl,rfl,hp,rfl,W3 ws,rfl,_,rfl,?_⟩;rw[a1K];refine C9 (λe=>?_) (λe=>?_)
  .refine k _ _ ?_ (λa z=>nomatch z) (Same.refl H);unfold M0;rw[if_neg λz=>?_]
   .rfl
   .rw[show ws.count (Str.ofString "=")=1 from z]at e;exact absurd e (by decide)
  have hc:ws.count (wd "=")=1:=by
   by_cases q:ws.count (wd "=")=1
   .exact q
   .refine absurd ?_ e;rw[decide_eq_false λz=>q ?_]
    .rfl
    .injection z with z
     exact Int.ofNat.inj z
  have hm:wd "="∈ws:=List.count_pos_iff.mp (by rw[hc];decide);obtain⟨i1,i2,i3⟩:=a3k hm;refine⟨_,rfl,.inl ⟨rfl,_,SqL.of hp⟩,p,_,_,ws.idxOf (wd "="),rfl,rfl,hp,rfl,W3 ws,by rw[List.length_map];exact i1,λz hz=>?_,λj z hj hz=>?_,?_⟩
  .rw[List.getElem?_map,i2]at hz;cases hz;show(wd "="==wd "=")=true;exact beq_self_eq_true _
  .rw[List.getElem?_map]at hz;obtain⟨y,hy,rfl⟩:=Option.map_eq_some_iff.mp hz;have:=i3 j hj;rw[hy]at this;exact this
  dsimp only[A9];have hcs:M0 ns ws=a6G (U0 ns (ws.take (ws.idxOf (wd "=")))) (U0 ns (ws.drop (ws.idxOf (wd "=")+1))):=by
   unfold M0;rw[if_pos hc]
  rw[hcs]at k;generalize ws.idxOf (wd "=")=m at i1 k;refine⟨_,rfl,_,rfl,?_⟩
  delta M5
  refine⟨_,rfl,_,rfl,p,_,rfl,SqL.of hp,λp1 hp1=>?_⟩;rw[cut_hi ws m (by omega)];have s1:=(Same.refl H).upd (o:=.lst ((ws.take m).map V.str)) hp1;have e1:upd H p1 (.lst ((ws.take m).map V.str)) p1=some (.lst ((ws.take m).map V.str)):=A0;generalize upd H p1 (.lst ((ws.take m).map V.str))=H1 at s1 e1;refine⟨nt,p1,ns,_,rfl,s1 _ _ hn,e1,hnl,⟨by have:=hw.1;have:=List.length_take_le m ws;omega,λx hx=>hw.2 x (List.mem_of_mem_take hx)⟩,λv2 H2 hv2 s2=>?_⟩;have s2:=s1.trans s2;dsimp only[A9];refine⟨_,rfl,_,rfl,_,rfl,_,_,rfl,rfl,_,rfl,p,_,rfl,SqL.of (s2 _ _ hp),λp3 hp3=>?_⟩;rw[show((m:Int)+1)=((m+1:Nat):Int) by omega,cut_lo ws (m+1) (by omega)];have s3:=(Same.refl H2).upd (o:=.lst ((ws.drop (m+1)).map V.str)) hp3;have e3:upd H2 p3 (.lst ((ws.drop (m+1)).map V.str)) p3=some (.lst ((ws.drop (m+1)).map V.str)):=A0;generalize upd H2 p3 (.lst ((ws.drop (m+1)).map V.str))=H3 at s3 e3;refine⟨nt,p3,ns,_,rfl,s3 _ _ (s2 _ _ hn),e3,hnl,⟨by have:=hw.1;rw[List.length_drop];omega,λx hx=>hw.2 x (List.mem_of_mem_drop hx)⟩,λv4 H4 hv4 s4=>?_⟩;have s34:=s3.trans s4;have s4':=s2.trans s34;have hv2:=hv2.same s34;have hl2:=@Z1 ns (ws.take m);generalize U0 ns (ws.take m)=ol at k hv2 hl2;have hl4:=@Z1 ns (ws.drop (m+1));generalize U0 ns (ws.drop (m+1))=or at k hv4 hl4;dsimp only[A9];refine⟨_,rfl,rfl,_,rfl,?_⟩;cases ol with
  |none =>
   rw[decide_eq_true (show v2=V.non from hv2)];exact R5 (k _ _ rfl (λa z=>nomatch z) s4')
  |some l =>
   obtain⟨a,rfl,ha⟩:=hv2;rw[decide_eq_false (by intro z;cases z)];refine L6 ⟨_,rfl,rfl,_,rfl,?_⟩;cases or with
   |none =>
    rw[decide_eq_true (show v4=V.non from hv4)];exact R5 (k _ _ rfl (λa z=>nomatch z) s4')
   |some r =>
    obtain⟨b,rfl,hb⟩:=hv4;rw[decide_eq_false (by intro z;cases z)];refine L6 ?_;have hll:=hl2 rfl;refine⟨_,rfl,_,rfl,false,false,a,b,rfl,⟨_,SqL.of ha⟩,⟨_,SqL.of hb⟩,?_⟩;refine a6Z (caps:=[]) (λx y=>V.int (x-y)) (k1:=false) (k2:=false) (SqL.of ha) (SqL.of hb) (by omega) (λH' s=>⟨SqL.of (s _ _ ha),SqL.of (s _ _ hb)⟩) rfl (λx y H1 Q1 _ q=>⟨_,rfl,_,rfl,_,_,rfl,rfl,q⟩) λH5 p5 s5 hp5=>?_;rw[a5f (λx y=>x-y) V.int];have hdl:(List.zipWith (λa b:Int=>a-b) l r).length=ns.length+1:=by rw[List.length_zipWith,hll,hl4 rfl,Nat.min_self]
    have hdo:a6G (some l) (some r)=if ∀x∈List.zipWith (λa b:Int=>a-b) l r,-topN<=x/\x<=topN then some (List.zipWith (λa b:Int=>a-b) l r)else none:=rfl
    rw[hdo]at k;generalize List.zipWith (λa b:Int=>a-b) l r=d at k hdl;have f5:H p5=none:=(s4'.trans s5).free hp5;have s5':=s4'.trans (s5.upd (o:=.lst (d.map V.int)) hp5);have e5:upd H5 p5 (.lst (d.map V.int)) p5=some (.lst (d.map V.int)):=A0;generalize upd H5 p5 (.lst (d.map V.int))=H6 at s5' e5;dsimp only[A9];refine⟨_,rfl,p5,rfl,⟨_,SqL.of e5⟩,?_⟩;refine a2o (vs:=d.map V.int) (as:=d) (caps:=[]) (λi=>V.int (if i<0 then -i else i)) (by rw[List.length_map];omega) (List.length_map ..) (λH' s=>SqL.of (s _ _ e5)) rfl (λi v x H7 Q7 hv hx s7 q=>?_) λH7 p7 s7 hp7=>?_
    .rw[List.getElem?_map,hx]at hv;cases hv;exact⟨_,rfl,x,rfl,q _ (Same.refl _)⟩
    .have s7':=s7.upd (o:=.lst (d.map λi=>V.int (if i<0 then -i else i))) hp7;have e7:upd H7 p7 (.lst (d.map λi=>V.int (if i<0 then -i else i))) p7=some (.lst (d.map λi=>V.int (if i<0 then -i else i))):=A0;generalize upd H7 p7 (.lst (d.map λi=>V.int (if i<0 then -i else i)))=H8 at s7' e7;refine⟨false,p7,d.map (λi=>if i<0 then -i else i),rfl,SqL.of (by rw[e7,List.map_map];rfl),by rw[List.length_map];omega,λM hM hmax=>?_⟩;refine⟨_,_,rfl,rfl,_,rfl,C9 (λe=>?_) (λe=>?_)⟩
     .have e:M<=topN:=of_decide_eq_true e;refine⟨_,rfl,k _ _ ?_ (λa z=>by cases z;exact f5) (s5'.trans s7')⟩;rw[if_pos ((a5Q d).mp λx hx=>Int.le_trans (hmax x hx) e)];exact⟨p5,rfl,s7' _ _ e5⟩
     .refine k _ _ ?_ (λa z=>nomatch z) (s5'.trans s7');rw[if_neg λz=>e (decide_eq_true ((a5Q d).mpr z M hM))];rfl
end
end K46
namespace K46
open PySem PySem.Spec PyProof.Rows L2
def X1(c:List (Str×Int)):List (Key×V):=c.map λq=>(Sum.inr q.1,V.int q.2)
def lk(c:List (Str×Int))(n:Str):Option Int:=(c.find? λq=>decide (q.1=n)).map (·.2)
theorem Z5(n:Str):∀c:List (Str×Int),T8 (X1 c) (Sum.inr n)=(lk c n).map V.int
 |[]=>rfl
 |q::r=>by
  have ih:=Z5 n r;unfold X1 lk at *;by_cases e:q.1=n
  .rw[List.map_cons,Y1 (by rw[e]),List.find?_cons,decide_eq_true e];rfl
  .rw[List.map_cons,Y2 (λz=>e (Sum.inr.inj z)),List.find?_cons,decide_eq_false e];exact ih
theorem a3b{c:List (Str×Int)}{n:Str}:(lk c n).isSome=decide (n∈c.map (·.1)):=by
 unfold lk;rw[Option.isSome_map,Bool.eq_iff_iff,List.find?_isSome,decide_eq_true_iff,List.mem_map];constructor
 .rintro⟨q,hq,e⟩;exact⟨q,hq,of_decide_eq_true e⟩
 .rintro⟨q,hq,e⟩;exact⟨q,hq,decide_eq_true e⟩
theorem b0j{c:List (Str×Int)}{n:Str}{x:Int}(h:n∉c.map (·.1)):R0 (X1 c) (Sum.inr n) (V.int x)=X1 (c++[(n,x)]):=by
 rw[a7C]
 .unfold X1;rw[List.map_append];rfl
 .rw[Z5];have:=a3b (c:=c) (n:=n);rw[decide_eq_false h]at this;cases e:lk c n with
  |none=>rfl
  |some y=>rw[e]at this;cases this
section
variable {P:Program}{w:World}{K:PySem.W.Frag}{mg:Str->Option Value}{base:Heap}
def b3Z:Sp:=λvs H Q _=>∃(nt p kp:Addr) (ns ws:List Str) (c:List (Str×Int)),vs=[.ref nt,.ref p,.ref kp]/\H nt=some (.tup (ns.map V.str))/\H p=some (.lst (ws.map V.str))/\H kp=some (.dK (X1 c))/\Wks ws/\c.length<=1000 /\
 (∀c' H',tkN ns c ws=some c'->H' kp=some (.dK (X1 c'))->Off [kp] H H'->Q (.bl true) H')/\(tkN ns c ws=none->∀H',Same H H'->Q (.bl false) H')
theorem sc_take_number:FnScope ["names","words","kept","number"] ["names","words","kept"] (A3 K5):=⟨rfl,rfl,rfl,by decide +kernel,rfl,by decide +kernel,by decide +kernel⟩
theorem at0{x:Str}{r:List Str}:atI ((x::r).map V.str) 0=some (V.str x):=L3 (j:=0) rfl
theorem at1{x y:Str}{r:List Str}:atI ((x::y::r).map V.str) 1=some (V.str y):=L3 (j:=1) rfl
theorem a1l{tT:Tok}(F:FunAt K mg "take_number" K5 ["names","words","kept"])(T:Tx mg)(M_TOP:mg "TOP"=some (.int 1000000000000 tT))(O_read_number:Ok P w K mg base "read_number" 3 ["word","top"] b1M):Ok P w K mg base "take_number" 4 ["names","words","kept"] b3Z:=by
 refine F.okJ sc_take_number (λvs H Q E h=>?_) (λcdv f A outer s H vs Q E hr h=>?_)
 .obtain⟨nt,p,kp,ns,ws,c,rfl,_⟩:=h;rfl
 .obtain⟨nt,p,kp,ns,ws,c,rfl,hn,hp,hk,hw,hcl,k1,k2⟩:=h;have hu:=hr.u60;have hz:(100000:Nat)<=sizeLine:=by rw[sizeLine_eq];decide
  refine⟨_,(A1 (C0 (Z6 (T6 (a3Y (G0 K rfl T.b_len (jaC (jv 1) jaN)) A2) (T6 (a6s K (J5 K (jv 1) A2) (jv 0) (by with_unfolding_all rfl)) (R1 (b2Y hu (J5 K (jv 1) A2) (jv 2) (by with_unfolding_all rfl))))))
 (A5 (B0 a0L))
 B6)
 (A1 (B3 (i:=3) sc_take_number.nd rfl (Or.inl rfl) (A7 O_read_number (hr.mono (by omega)) rfl (jaC (J5 K (jv 1) A2) (jaC (a1y (v:=.int 1000000000000) rfl M_TOP ⟨_,rfl⟩) jaN))))
 (A1 (C0 (X6 (jv 3) G9)
 (A5 (B0 a0L))
 B6)
 (A1 (Z7 hu (jv 2) (J5 K (jv 1) A2) (jv 3))
 (A5 (B0 a0L)))))),?_⟩
  refine⟨_,rfl,p,_,rfl,.inl (SqL.of hp),rfl,_,rfl,?_⟩
  match ws,hw,hp,k1,k2 with
  |[],hw,hp,k1,k2=>exact R5 (k2 rfl _ (Same.refl H))
  |[_],hw,hp,k1,k2=>exact R5 (k2 rfl _ (Same.refl H))
  |a::b::c0::r,hw,hp,k1,k2 =>
   rw[decide_eq_false (λz=>by injection z with z;simp at z;omega)];exact R5 (k2 rfl _ (Same.refl H))
  |[n,f],hw,hp,k1,k2 =>
   refine L6 ⟨_,rfl,p,_,_,_,rfl,rfl,SqL.of hp,at0,_,rfl,nt,_,rfl,.inr (SqT.of hn),rfl,W3 ns,?_⟩;rw[if_pos rfl,a5E];refine⟨_,rfl,C9 (λe=>?_) (λe=>?_)⟩
   .refine k2 ?_ _ (Same.refl H);have:¬n∈ns:=by simpa using e
    unfold tkN;dsimp only;rw[if_neg λz=>this z.1]
   have hin:n∈ns:=by simpa using e
   refine⟨_,rfl,p,_,_,_,rfl,rfl,SqL.of hp,at0,_,rfl,kp,_,rfl,DGet.k (k:=Sum.inr n) hk,_,rfl,?_⟩;rw[Z5,Option.isSome_map,a3b];refine C9 (λe=>?_) (λe=>?_)
   .refine k2 ?_ _ (Same.refl H);have:n∈c.map (·.1):=of_decide_eq_true e;unfold tkN;dsimp only;rw[if_neg λz=>z.2 this]
   have hno:n∉c.map (·.1):=λz=>e (decide_eq_true z);have htk:tkN ns c [n,f]=(rdN f).map λx=>c++[(n,x)]:=by
    unfold tkN;dsimp only;rw[if_pos ⟨hin,hno⟩]
   rw[htk]at k1 k2;refine⟨_,rfl,p,_,_,_,rfl,rfl,SqL.of hp,at1,f,rfl,hw.2 f (by simp),λH1 s1=>?_⟩;dsimp only[A9];cases er:rdN f with
   |none =>
    rw[er]at k2;exact⟨_,rfl,rfl,_,rfl,R5 (k2 rfl _ s1)⟩
   |some x =>
    rw[er]at k1;refine⟨_,rfl,rfl,_,rfl,?_⟩;rw[decide_eq_false (by intro z;cases z)];refine L6 ⟨_,rfl,_,rfl,_,rfl,p,_,_,_,rfl,rfl,SqL.of (s1 _ _ hp),at0,kp,_,rfl,DPut.k (k:=Sum.inr n) (s1 _ _ hk) (by unfold X1;rw[List.length_map];omega),?_⟩;refine k1 _ _ rfl ?_ (s1.off.set (by simp));rw[A0];exact congrArg some (congrArg HO.dK (b0j hno))
end
def dfl(tn ar as ac ap:Addr):List (Str×V):=[("names",.ref tn),("rows",.ref ar),("sides",.ref as),("caps",.ref ac),("prices",.ref ap)]
section
variable (tn ar as ac ap tn':Addr)
theorem a1J:(dfl tn ar as ac ap).lookup ("names" : Str)=some (.ref tn):=by with_unfolding_all rfl
theorem a8W:(dfl tn ar as ac ap).lookup ("rows" : Str)=some (.ref ar):=by with_unfolding_all rfl
theorem b1y:(dfl tn ar as ac ap).lookup ("sides" : Str)=some (.ref as):=by with_unfolding_all rfl
theorem b1A:(dfl tn ar as ac ap).lookup ("caps" : Str)=some (.ref ac):=by with_unfolding_all rfl
theorem b1z:(dfl tn ar as ac ap).lookup ("prices" : Str)=some (.ref ap):=by with_unfolding_all rfl
theorem a8V:(dfl tn ar as ac ap).lookup ("take" : Str)=none:=by with_unfolding_all rfl
theorem b3t:(dfl tn ar as ac ap).lookup ("take_names" : Str)=none:=by with_unfolding_all rfl
theorem b3s:(dfl tn ar as ac ap).lookup ("take_sum" : Str)=none:=by with_unfolding_all rfl
theorem b3r:(dfl tn ar as ac ap).lookup ("whole" : Str)=none:=by with_unfolding_all rfl
theorem b0B:F0 "prices" (.ref ap) (F0 "caps" (.ref ac) (F0 "sides" (.ref as) (F0 "rows" (.ref ar) (F0 "names" (.ref tn) []))))=dfl tn ar as ac ap:=by with_unfolding_all rfl
theorem a8X:F0 "names" (.ref tn') (dfl tn ar as ac ap)=dfl tn' ar as ac ap:=by with_unfolding_all rfl
end
theorem Its.putI{H:Hp}{vs:List V}{rss:LLI}{c C dx:Addr}{fs:List (Str×V)}{o:HO}(h:Its H vs rss)(hc:H c=some (.ins C dx fs)):Its (upd H c o) vs rss:=⟨h.1,λi v e=>let ⟨r,e1,a,e2,q⟩:=h.2 i v e;⟨r,e1,a,e2,by rw[A6 (a0B q hc (by intro z;cases z))];exact q⟩⟩
structure DrTx(K:PySem.W.Frag)(C:Addr):Prop where
 cl:Cls K C
 n1:NoAttr K C "names"
 n2:NoAttr K C "rows"
 n3:NoAttr K C "sides"
 n4:NoAttr K C "caps"
 n5:NoAttr K C "prices"
structure DrAt(C:Addr)(H:Hp)(p ar as ac ap:Addr)(d:Dr):Prop where
 ob:∃dx tn,H p=some (.ins C dx (dfl tn ar as ac ap))/\H tn=some (.tup (d.names.map V.str))
 hr:∃us,H ar=some (.lst us)/\Its H us d.rows
 hs:H as=some (.lst (d.sides.map V.int))
 hc:H ac=some (.dK (X1 d.caps))
 hp:H ap=some (.dK (X1 d.prices))
 rs:ar≠as
 cp:ac≠ap
theorem DrAt.same{C:Addr}{H H':Hp}{p ar as ac ap:Addr}{d:Dr}(h:DrAt C H p ar as ac ap d)(s:Same H H'):DrAt C H' p ar as ac ap d:=by
 obtain⟨⟨dx,tn,o1,o2⟩,⟨us,r1,r2⟩,hs,hc,hp,rs,cp⟩:=h;exact⟨⟨dx,tn,s _ _ o1,s _ _ o2⟩,⟨us,s _ _ r1,r2.same s⟩,s _ _ hs,s _ _ hc,s _ _ hp,rs,cp⟩
section
variable {P:Program}{w:World}{K:PySem.W.Frag}{mg:Str->Option Value}{base:Heap}{C:Addr}
def dr0:Dr:=⟨[],[],[],[],[]⟩
def a5m(C:Addr):Sp:=λvs H Q _=>∃(p dx:Addr),vs=[.ref p]/\H p=some (.ins C dx [])/\∀(ar as ac ap:Addr) (H':Hp),H ar=none->H as=none->H ac=none->H ap=none->DrAt C H' p ar as ac ap dr0->(∀b o,H b=some o->b≠p->H' b=some o)->Q .non H'
theorem Y9:FnScope ["self"] ["self"] (A3 G4):=⟨rfl,rfl,rfl,by decide +kernel,rfl,by decide +kernel,by decide +kernel⟩
theorem a8k(FM:MethAt K C "__init__" "Draft.__init__" G4 ["self"])(U:DrTx K C):MethOk P w K mg base C "__init__" 1 ["self"] (a5m C):=by
 refine FM.fnJ Y9 (λvs H Q E h=>?_) (λcdv f A outer s H vs Q E hr h=>?_)
 .obtain⟨p,dx,rfl,_⟩:=h;rfl
 .obtain⟨p,dx,rfl,hp,k⟩:=h;refine⟨_,(A1 (a0t K (jv 0) (a4e jaN))
 (A1 (a0t K (jv 0) (C5 jaN))
 (A1 (a0t K (jv 0) (C5 jaN))
 (A1 (a0t K (jv 0) a5B)
 (A5 (a0t K (jv 0) a5B)))))),?_⟩
  have step:∀{H1:Hp}{x:Addr}{o:HO}{fs:List (Str×V)}{fl:Str}{v:V},H1 p=some (.ins C dx fs)->H1 x=none->(upd (upd H1 x o) p (.ins C dx (F0 fl v fs))) p=some (.ins C dx (F0 fl v fs))/\p≠x/\upd H1 x o p=some (.ins C dx fs)/\(upd (upd H1 x o) p (.ins C dx (F0 fl v fs))) x=some o/\∀b u,H1 b=some u->b≠p->(upd (upd H1 x o) p (.ins C dx (F0 fl v fs))) b=some u:=by
   intro H1 x o fs fl v h1 h2;have px:p≠x:=A4 h1 h2;refine⟨A0,px,by rw[A6 px];exact h1,by rw[A6 px.symm,A0],λb u hb hne=>?_⟩;rw[A6 hne,A6 (A4 hb h2)];exact hb
  refine⟨Nat.zero_le _,λtn htn=>?_⟩;obtain⟨a1,a2,a3,a4,a5⟩:=step (o:=.tup []) (fl:="names") (v:=.ref tn) hp htn;refine⟨_,rfl,p,C,dx,_,rfl,a3,U.cl,U.n1,by decide,?_⟩;generalize upd (upd H tn (.tup [])) p (.ins C dx (F0 "names" (.ref tn) []))=H1 at a1 a4 a5;refine⟨Nat.zero_le _,λar har=>?_⟩;obtain⟨b1,b2,b3,b4,b5⟩:=step (o:=.lst []) (fl:="rows") (v:=.ref ar) a1 har;refine⟨_,rfl,p,C,dx,_,rfl,b3,U.cl,U.n2,by show(1:Nat)<1000;decide,?_⟩;generalize upd (upd H1 ar (.lst [])) p (.ins C dx (F0 "rows" (.ref ar) (F0 "names" (.ref tn) [])))=H2 at b1 b4 b5;refine⟨Nat.zero_le _,λas has=>?_⟩;obtain⟨c1,c2,c3,c4,c5⟩:=step (o:=.lst []) (fl:="sides") (v:=.ref as) b1 has;refine⟨_,rfl,p,C,dx,_,rfl,c3,U.cl,U.n3,by show(2:Nat)<1000;decide,?_⟩;generalize upd (upd H2 as (.lst [])) p (.ins C dx (F0 "sides" (.ref as) (F0 "rows" (.ref ar) (F0 "names" (.ref tn) []))))=H3 at c1 c4 c5;refine λac hac=>?_;obtain⟨d1,d2,d3,d4,d5⟩:=step (o:=.dK []) (fl:="caps") (v:=.ref ac) c1 hac;refine⟨_,rfl,p,C,dx,_,rfl,d3,U.cl,U.n4,by show(3:Nat)<1000;decide,?_⟩;generalize upd (upd H3 ac (.dK [])) p (.ins C dx (F0 "caps" (.ref ac) (F0 "sides" (.ref as) (F0 "rows" (.ref ar) (F0 "names" (.ref tn) [])))))=H4 at d1 d4 d5;refine λap hap=>?_;obtain⟨f1,f2,f3,f4,f5⟩:=step (o:=.dK []) (fl:="prices") (v:=.ref ap) d1 hap;refine⟨_,rfl,p,C,dx,_,rfl,f3,U.cl,U.n5,by show(4:Nat)<1000;decide,?_⟩;have g1:∀b o,H b=some o->b≠p->H1 b=some o:=a5;have g2:∀b o,H b=some o->b≠p->H2 b=some o:=λb o e n=>b5 b o (g1 b o e n) n;have g3:∀b o,H b=some o->b≠p->H3 b=some o:=λb o e n=>c5 b o (g2 b o e n) n;have g4:∀b o,H b=some o->b≠p->H4 b=some o:=λb o e n=>d5 b o (g3 b o e n) n;have fr:∀{Hx:Hp}{x:Addr},(∀b o,H b=some o->b≠p->Hx b=some o)->Hx x=none->p≠x->H x=none:=by
   intro Hx x g hx px;cases e:H x with
   |none=>rfl
   |some o=>rw[g x o e px.symm]at hx;cases hx
  refine k ar as ac ap _ (fr g1 har b2) (fr g2 has c2) (fr g3 hac d2) (fr g4 hap f2) ⟨⟨dx,tn,by rw[A0,b0B],?_⟩,⟨[],?_,.nil⟩,?_,?_,?_,?_,?_⟩ λb o e n=>f5 b o (g4 b o e n) n
  .exact f5 _ _ (d5 _ _ (c5 _ _ (b5 _ _ a4 a2.symm) a2.symm) a2.symm) a2.symm
  .exact f5 _ _ (d5 _ _ (c5 _ _ b4 b2.symm) b2.symm) b2.symm
  .exact f5 _ _ (d5 _ _ c4 c2.symm) c2.symm
  .exact f5 _ _ d4 d2.symm
  .exact f4
  .exact A4 b4 has
  .exact A4 d4 hap
def b0R(C:Addr):Sp:=λvs H Q _=>∃(p ar as ac ap l:Addr) (ws:List Str) (d:Dr),vs=[.ref p,.ref l]/\DrAt C H p ar as ac ap d/\H l=some (.lst (ws.map V.str))/\Wks ws /\
 ((1<=ws.length/\ws.length<=7/\ws.Nodup/\∀x∈ws,isNm x)->∀H',DrAt C H' p ar as ac ap {d with names:=ws}->Off [p] H H'->Q (.bl true) H')/\(¬(1<=ws.length/\ws.length<=7/\ws.Nodup/\∀x∈ws,isNm x)->∀H',Same H H'->Q (.bl false) H')
theorem W8:FnScope ["self","words"] ["self","words"] (A3 E1):=⟨rfl,rfl,rfl,by decide +kernel,rfl,by decide +kernel,by decide +kernel⟩
theorem a2n{ws D:List Str}(hD:D.Nodup)(hm:∀x,x∈D↔x∈ws)(hl:D.length<=ws.length):D.length<ws.length↔¬ws.Nodup:=by
 constructor
 .intro h hn;have:=Tab.nodup_le ws D hn λx hx=>(hm x).mpr hx;omega
 .intro h;refine Nat.lt_of_le_of_ne hl λe=>h ?_;clear hl h;induction ws generalizing D with
  |nil=>exact List.nodup_nil
  |cons w r ih =>
   by_cases c:w∈r
   .exfalso;have:=Tab.nodup_le D r hD λx hx=>by
     rcases List.mem_cons.mp ((hm x).mp hx)with z|z
     .rw[z];exact c
     .exact z
    rw[e,List.length_cons]at this;omega
   .refine List.nodup_cons.mpr ⟨c,ih (D:=D.erase w) (hD.erase w) (λx=>?_) ?_⟩
    .rw[hD.mem_erase_iff,hm,List.mem_cons];constructor
     .rintro⟨h1,h2|h2⟩
      .exact absurd h2 h1
      .exact h2
     .intro h;exact⟨λz=>c (by rw[<-z];exact h),.inr h⟩
    .rw[List.length_erase_of_mem ((hm w).mpr List.mem_cons_self),e,List.length_cons];rfl
theorem a1X(FM:MethAt K C "take_names" "Draft.take_names" E1 ["self","words"])(U:DrTx K C)(T:Tx mg)(O_is_name:Ok P w K mg base "is_name" 1 ["word"] b4d):MethOk P w K mg base C "take_names" 2 ["self","words"] (b0R C):=by
 refine FM.fnJ W8 (λvs H Q E h=>?_) (λcdv f A outer s H vs Q E hr h=>?_)
 .obtain⟨p,ar,as,ac,ap,l,ws,d,rfl,_⟩:=h;rfl
 .obtain⟨p,ar,as,ac,ap,l,ws,d,rfl,D,hl,hw,k1,k2⟩:=h;have hu:=hr.u60;have hz:(100000:Nat)<=sizeLine:=by rw[sizeLine_eq];decide
  have hsb:(9:Nat)<scanBound:=by decide
  refine⟨_,(A1 (C0 (Z6 (T6 (V1 (b0l A2 (G0 K rfl T.b_len (jaC (jv 1) jaN)) A2)) (T6 (b4G (b0o P w rfl T.b_len (jaC (b0m K P w rfl T.b_set (jaC (jv 1) jaN)) jaN)) (G0 K rfl T.b_len (jaC (jv 1) jaN))) (R1 (V1 (T0 K (a3i K rfl T.b_all (jaC (J2 (N:=["word"]) (src:=[none]) (N3 K (jv 1)) (by show D0 _ _=true;rfl) (by rfl) (by rfl)
 (λ_ _ _ _ _=>(A8 (i:=0) (show(["word"]:List Str).Nodup by decide +kernel) rfl (Or.inl rfl))) (λ_ _ _ _ _=>E7) (λ_ _ _ _ _=>(A7 O_is_name (hr.mono (by omega)) rfl (jaC (jv 0) jaN)))) jaN))))))))
 (A5 (B0 a0L))
 B6)
 (A1 (a0t K (jv 0) (E3 K rfl T.b_tuple (jaC (jv 1) jaN)))
 (A5 (B0 a0L)))),?_⟩
  have no:¬(1<=ws.length/\ws.length<=7)->Q (.bl false) H:=λn=>k2 (λz=>n ⟨z.1,z.2.1⟩) _ (Same.refl H);refine⟨_,rfl,l,_,rfl,.inl (SqL.of hl),_,_,rfl,rfl,_,rfl,C9 (λe1=>?_) (λe1=>?_)⟩
  .have e1:=of_decide_eq_true e1;rw[List.length_map]at e1;refine⟨_,_,rfl,rfl,_,rfl,?_⟩;rw[List.length_map];by_cases e2:ws.length<=7
   .rw[decide_eq_true (show((ws.length:Nat):Int)<=7 by omega)];refine L6 ⟨_,rfl,l,ws,rfl,SqL.of hl,by omega,λa S0 hfa hD hm hle=>?_⟩;have s1:=(Same.refl H).upd (o:=a3G P w a S0.length) hfa;have ea:upd H a (a3G P w a S0.length) a=some (a3G P w a S0.length):=A0;generalize upd H a (a3G P w a S0.length)=H1 at s1 ea;refine⟨a,_,rfl,ea,by omega,_,rfl,l,_,rfl,.inl (SqL.of (s1 _ _ hl)),_,_,rfl,rfl,_,rfl,C9 (λe=>?_) (λe=>?_)⟩
    .have e:=of_decide_eq_true e;rw[List.length_map]at e;exact k2 (λz=>(a2n hD hm hle).mp (by omega) z.2.2.1) _ s1
    have hnd:ws.Nodup:=Classical.byContradiction λz=>e (decide_eq_true (by have:=(a2n hD hm hle).mpr z;rw[List.length_map];omega));refine⟨_,rfl,l,rfl,⟨_,SqL.of (s1 _ _ hl)⟩,?_⟩;refine a2o (vs:=ws.map V.str) (as:=ws) (caps:=[]) (λx=>V.bl (decide (isNm x))) (by rw[List.length_map];omega) (List.length_map ..) (λH' s=>SqL.of (s _ _ (s1 _ _ hl))) rfl (λi v x H2 Q2 hv hx s2 q=>?_) λH2 p2 s2 hp2=>?_
    .rw[List.getElem?_map,hx]at hv;cases hv;exact⟨_,rfl,x,rfl,hw.2 x (List.mem_of_getElem? hx),q⟩
    .have s3:=s1.trans (s2.upd (o:=.lst (ws.map λx=>V.bl (decide (isNm x)))) hp2);refine⟨false,p2,_,rfl,SqL.of A0,?_,?_⟩
     .rw[List.all_map,List.all_eq_true];intro x _;rfl
     rw[show(ws.map λx=>V.bl (decide (isNm x))).all trV=ws.all λx=>decide (isNm x) by rw[List.all_map];rfl];generalize upd H2 p2 (.lst (ws.map λx=>V.bl (decide (isNm x))))=H3 at s3;refine⟨_,rfl,C9 (λe=>?_) (λe=>?_)⟩
     .refine k2 (λz=>?_) _ s3;rw[show ws.all (λx=>decide (isNm x))=true from List.all_eq_true.mpr λx hx=>decide_eq_true (z.2.2.2 x hx)]at e;cases e
     .have hall:∀x∈ws,isNm x:=λx hx=>by
       have:ws.all (λx=>decide (isNm x))=true:=by simpa using e
       exact of_decide_eq_true (List.all_eq_true.mp this x hx)
      refine⟨_,rfl,l,_,rfl,.inl ⟨SqL.of (s3 _ _ hl),λtn htn=>?_⟩⟩;have s4:=s3.upd (o:=.tup (ws.map V.str)) htn;have e4:upd H3 tn (.tup (ws.map V.str)) tn=some (.tup (ws.map V.str)):=A0;generalize upd H3 tn (.tup (ws.map V.str))=H4 at s4 e4;have D4:=D.same s4;obtain⟨⟨dx,tn0,o1,o2⟩,⟨us,r1,r2⟩,hs,hc,hp,rs,cp⟩:=D4;refine⟨_,rfl,p,C,dx,_,rfl,o1,U.cl,U.n1,by show(5:Nat)<1000;decide,?_⟩;rw[a8X];have pe:∀{b:Addr}{o:HO},H4 b=some o->(∀fs,o≠.ins C dx fs)->upd H4 p (.ins C dx (dfl tn ar as ac ap)) b=some o:=λ{b o} hb hne=>by
       rw[A6 λz=>by subst z;rw[hb]at o1;injection o1 with o1;exact hne _ o1];exact hb
      refine k1 ⟨by omega,e2,hnd,hall⟩ _ ⟨⟨dx,tn,A0,pe e4 (λfs z=>nomatch z)⟩,⟨us,pe r1 (λfs z=>nomatch z),Its.putI r2 o1⟩,pe hs (λfs z=>nomatch z),pe hc (λfs z=>nomatch z),pe hp (λfs z=>nomatch z),rs,cp⟩ (s4.off.set (by simp))
   .rw[decide_eq_false (show ¬((ws.length:Nat):Int)<=7 by omega)];exact R5 (no λz=>e2 z.2)
  .exact⟨_,rfl,R5 (no λz=>e1 (decide_eq_true (by rw[List.length_map];omega)))⟩
def b3Y(C:Addr):Sp:=λvs H Q _=>∃(p ar as ac ap l:Addr) (ws:List Str) (d:Dr),vs=[.ref p,.ref l]/\DrAt C H p ar as ac ap d/\H l=some (.lst (ws.map V.str))/\Wks ws/\d.names.length<=100/\d.rows.length<=6/\d.sides.length<=6 /\
 (∀r H',M0 d.names ws=some r->d.rows.length≠6->DrAt C H' p ar as ac ap {d with rows:=d.rows++[r.dropLast],sides:=d.sides++[-(r.getLastD 0)]}->Off [ar,as] H H'->Q (.bl true) H')/\((M0 d.names ws=none∨d.rows.length=6)->∀H',Same H H'->Q (.bl false) H')
theorem sc_Draft_take_sum:FnScope ["self","words","rest"] ["self","words"] (A3 G3):=⟨rfl,rfl,rfl,by decide +kernel,rfl,by decide +kernel,by decide +kernel⟩
theorem a8U{a b:Option (List Int)}{r:List Int}{n:Nat}(ha:∀l,a=some l->l.length=n)(hb:∀l,b=some l->l.length=n)(h:a6G a b=some r):r.length=n:=by
 match a,b,h with
 |some l,some m,h =>
  unfold a6G a8T at h;dsimp only at h;split at h
  .cases h;rw[List.length_zipWith,ha l rfl,hb m rfl,Nat.min_self]
  .cases h
theorem a5Y{ns ws:List Str}{r:List Int}(h:M0 ns ws=some r):r.length=ns.length+1:=by
 unfold M0 at h;split at h
 .exact a8U (λl e=>Z1 e) (λl e=>Z1 e) h
 .cases h
theorem a6p{r:List Int}(h:0<r.length):atI (r.map V.int) (-1)=some (V.int (r.getLastD 0)):=by
 obtain⟨r',x,rfl⟩:∃r' x,r=r'++[x]:=⟨r.dropLast,r.getLast (List.ne_nil_of_length_pos h),(List.dropLast_concat_getLast _).symm⟩;rw[List.map_append,show(r'++[x]).getLastD 0=x by simp];exact a1Q _ _
theorem a3M(FM:MethAt K C "take_sum" "Draft.take_sum" G3 ["self","words"])(U:DrTx K C)(T:Tx mg)(O_read_sum:Ok P w K mg base "read_sum" 6 ["names","words"] b4b):MethOk P w K mg base C "take_sum" 7 ["self","words"] (b3Y C):=by
 refine FM.fnJ sc_Draft_take_sum (λvs H Q E h=>?_) (λcdv f A outer s H vs Q E hr h=>?_)
 .obtain⟨p,ar,as,ac,ap,l,ws,d,rfl,_⟩:=h;rfl
 .obtain⟨p,ar,as,ac,ap,l,ws,d,rfl,D,hl,hw,hnl,hrl,hsl,k1,k2⟩:=h;have hz:(100000:Nat)<=sizeLine:=by rw[sizeLine_eq];decide
  refine⟨_,(A1 (B3 (i:=2) sc_Draft_take_sum.nd rfl (Or.inl rfl) (A7 O_read_sum (hr.mono (by omega)) rfl (jaC (M3 K (jv 0)) (jaC (jv 1) jaN))))
 (A1 (C0 (Z6 (T6 (X6 (jv 2) G9) (R1 (N9 (G0 K rfl T.b_len (jaC (M3 K (jv 0)) jaN)) A2))))
 (A5 (B0 a0L))
 B6)
 (A1 (C4 (C8 K (M3 K (jv 0)) (jaC (E3 K rfl T.b_tuple (jaC (a0E K (jv 2) Q0 (P0 (Q3 A2))) jaN)) jaN)))
 (A1 (C4 (C8 K (M3 K (jv 0)) (jaC (Q3 (J5 K (jv 2) (Q3 A2))) jaN)))
 (A5 (B0 a0L)))))),?_⟩
  obtain⟨⟨dx,tn,o1,o2⟩,_⟩:=id D;refine⟨_,rfl,p,C,dx,_,_,rfl,o1,U.cl,U.n1,a1J _ _ _ _ _,_,rfl,tn,l,d.names,ws,rfl,o2,hl,hnl,hw,λv H1 hv hfr s1=>?_⟩;dsimp only[A9];have D1:=D.same s1;have hlen:=@a5Y d.names ws;generalize M0 d.names ws=os at k1 k2 hv hlen;refine⟨_,rfl,rfl,_,rfl,?_⟩;cases os with
  |none =>
   rw[decide_eq_true (show v=V.non from hv)];exact R5 (k2 (.inl rfl) _ s1)
  |some r =>
   obtain⟨a,rfl,ha⟩:=hv;have hlen:=hlen rfl;rw[decide_eq_false (by intro z;cases z)];obtain⟨⟨dx,tn,o1,o2⟩,⟨us,r1,r2⟩,hs,hc,hp,rs,cp⟩:=id D1;refine L6 ⟨_,rfl,p,C,dx,_,_,rfl,o1,U.cl,U.n2,a8W _ _ _ _ _,ar,_,rfl,.inl (SqL.of r1),rfl,_,rfl,C9 (λe=>?_) (λe=>?_)⟩
   .refine k2 (.inr ?_) _ s1;have e:=of_decide_eq_true e;injection e with e
    rw[r2.1]at e;exact Int.ofNat.inj e
   have h6:d.rows.length≠6:=λz=>e (decide_eq_true (by rw[r2.1,z];rfl));refine⟨_,rfl,p,C,dx,_,_,rfl,o1,U.cl,U.n2,a8W _ _ _ _ _,.inl ⟨rfl,_,SqL.of r1⟩,?_⟩;dsimp only[M5];refine⟨_,rfl,_,rfl,_,rfl,a,_,rfl,SqL.of ha,λp2 hp2=>?_⟩;rw[a4p,<-List.map_dropLast];have s2:=(Same.refl H1).upd (o:=.lst (r.dropLast.map V.int)) hp2;have e2:upd H1 p2 (.lst (r.dropLast.map V.int)) p2=some (.lst (r.dropLast.map V.int)):=A0;generalize upd H1 p2 (.lst (r.dropLast.map V.int))=H2 at s2 e2;refine⟨p2,_,rfl,.inl ⟨SqL.of e2,λp3 hp3=>?_⟩⟩;have s3:=s2.upd (o:=.tup (r.dropLast.map V.int)) hp3;have e3:upd H2 p3 (.tup (r.dropLast.map V.int)) p3=some (.tup (r.dropLast.map V.int)):=A0;generalize upd H2 p3 (.tup (r.dropLast.map V.int))=H3 at s3 e3;refine⟨ar,us,_,rfl,rfl,s3 _ _ r1,by rw[r2.1];omega,?_⟩;have n1:∀{b:Addr}{o:HO},H3 b=some o->b≠ar->upd H3 ar (.lst (us++[V.ref p3])) b=some o:=λhb hne=>by rw[A6 hne];exact hb
   have kd:∀{b:Addr}{o:HO},H3 b=some o->(∀xs,o≠.lst xs)->b≠ar:=λ{b o} hb hne z=>by
    subst z;rw[s3 _ _ r1]at hb;injection hb with hb
    exact hne _ hb.symm
   have o1':=n1 (s3 _ _ o1) (kd (s3 _ _ o1) λ_ z=>nomatch z);have ha':a≠ar:=λz=>by
    obtain⟨_,⟨us0,r10,_⟩,_⟩:=D;rw[z]at hfr;rw[hfr ar rfl]at r10;cases r10
   refine⟨_,rfl,p,C,dx,_,_,rfl,o1',U.cl,U.n3,b1y _ _ _ _ _,.inl ⟨rfl,_,SqL.of (n1 (s3 _ _ hs) rs.symm)⟩,?_⟩;refine⟨_,rfl,_,rfl,a,_,_,_,rfl,rfl,SqL.of (n1 (s3 _ _ ha) ha'),a6p (by omega),_,rfl,as,_,_,rfl,rfl,n1 (s3 _ _ hs) rs.symm,by rw[List.length_map];omega,?_⟩;have hs3:=s3 _ _ hs;have pas:p≠as:=a0B (s3 _ _ o1) hs3 (by intro z;cases z);have n2:∀{b:Addr}{o:HO},H3 b=some o->(∀xs,o≠.lst xs)->upd (upd H3 ar (.lst (us++[V.ref p3]))) as (.lst (d.sides.map V.int++[V.int (-(r.getLastD 0))])) b=some o:=λ{b o} hb hne=>by
    rw[A6 λz=>by subst z;rw[hs3]at hb;injection hb with hb;exact hne _ hb.symm];exact n1 hb (kd hb hne)
   refine k1 r _ rfl h6 ⟨⟨dx,tn,n2 (s3 _ _ o1) (λ_ z=>nomatch z),n2 (s3 _ _ o2) (λ_ z=>nomatch z)⟩,⟨us++[V.ref p3],by rw[A6 rs,A0],?_⟩,by rw[A0,List.map_append];rfl,n2 (s3 _ _ hc) (λ_ z=>nomatch z),n2 (s3 _ _ hp) (λ_ z=>nomatch z),rs,cp⟩ (((s1.trans s3).off.set (by simp)).set (by simp));exact Its.put (Its.put ((r2.same s3).snoc ⟨p3,rfl,e3⟩) (s3 _ _ r1)) (n1 hs3 rs.symm)
theorem a0W(x:V)(xs:List V):W9 (x::xs) (some (1:Int)) none=xs:=by
 unfold W9;rw[show(1:Int)=((1:Nat):Int)from rfl,HT.sIx_none,HT.sIx_nat];simp
def L5(p ar as ac ap:Addr):List Addr:=[p,ar,as,ac,ap]
def b3X(C:Addr):Sp:=λvs H Q _=>∃(p ar as ac ap l:Addr) (ws:List Str) (d:Dr),vs=[.ref p,.ref l]/\DrAt C H p ar as ac ap d/\H l=some (.lst (ws.map V.str))/\Wks ws/\ws≠[]/\d.names.length<=7/\d.rows.length<=6/\d.sides.length<=6/\d.caps.length<=1000/\d.prices.length<=1000 /\
 (∀d' H',d.take ws=some d'->DrAt C H' p ar as ac ap d'->Off (L5 p ar as ac ap) H H'->Q (.bl true) H')/\(d.take ws=none->∀H',Same H H'->Q (.bl false) H')
theorem a1U:FnScope ["self","words"] ["self","words"] (A3 N2):=⟨rfl,rfl,rfl,by decide +kernel,rfl,by decide +kernel,by decide +kernel⟩
theorem a8g(FM:MethAt K C "take" "Draft.take" N2 ["self","words"])(U:DrTx K C)(T:Tx mg)(CL_Draft:Cls K C)(O_Draft_take_names:MethOk P w K mg base C "take_names" 2 ["self","words"] (b0R C))(O_Draft_take_sum:MethOk P w K mg base C "take_sum" 7 ["self","words"] (b3Y C))(O_take_number:Ok P w K mg base "take_number" 4 ["names","words","kept"] b3Z):MethOk P w K mg base C "take" 8 ["self","words"] (b3X C):=by
 refine FM.fnJ a1U (λvs H Q E h=>?_) (λcdv f A outer s H vs Q E hr h=>?_)
 .obtain⟨p,ar,as,ac,ap,l,ws,d,rfl,_⟩:=h;rfl
 .obtain⟨p,ar,as,ac,ap,l,ws,d,rfl,D,hl,hw,hne,hnl,hrl,hsl,hcl,hpl,k1,k2⟩:=h;have hz:(100000:Nat)<=sizeLine:=by rw[sizeLine_eq];decide
  refine⟨_,(A1 (C0 (N9 (G0 K rfl T.b_len (jaC (M3 K (jv 0)) jaN)) A2)
 (A5 (B0 (a1z (a1t (J5 K (jv 1) A2) B2) (a1w (a4R O_Draft_take_names CL_Draft (hr.mono (by omega)) (jv 0) (jaC (a0E K (jv 1) (P0 A2) Q0) jaN))))))
 B6)
 (A1 (C0 (N9 (J5 K (jv 1) A2) B2)
 (A5 (B0 (a4R O_Draft_take_sum CL_Draft (hr.mono (by omega)) (jv 0) (jaC (a0E K (jv 1) (P0 A2) Q0) jaN))))
 B6)
 (A1 (C0 (N9 (J5 K (jv 1) A2) B2)
 (A5 (B0 (A7 O_take_number (hr.mono (by omega)) rfl (jaC (M3 K (jv 0)) (jaC (a0E K (jv 1) (P0 A2) Q0) (jaC (M3 K (jv 0)) jaN))))))
 B6)
 (A5 (B0 (a1z (a1t (J5 K (jv 1) A2) B2) (a1w (A7 O_take_number (hr.mono (by omega)) rfl (jaC (M3 K (jv 0)) (jaC (a0E K (jv 1) (P0 A2) Q0) (jaC (M3 K (jv 0)) jaN))))))))))),?_⟩
  obtain⟨x,r,rfl⟩:∃x r,ws=x::r:=by
   cases ws with
   |nil=>exact absurd rfl hne
   |cons x r=>exact⟨x,r,rfl⟩
  obtain⟨⟨dx,tn,o1,o2⟩,_⟩:=id D;have hwr:Wks r:=⟨by have:=hw.1;rw[List.length_cons]at this;omega,λy hy=>hw.2 y (List.mem_cons_of_mem _ hy)⟩;refine⟨_,rfl,p,C,dx,_,_,rfl,o1,U.cl,U.n1,a1J _ _ _ _ _,tn,_,rfl,.inr (SqT.of o2),rfl,_,rfl,C9 (λe=>?_) (λe=>?_)⟩
  .have hn0:d.names=[]:=by
    have e:=of_decide_eq_true e;injection e with e
    rw[List.length_map]at e;exact List.length_eq_zero_iff.mp (Int.ofNat.inj e)
   refine⟨_,rfl,l,_,_,_,rfl,rfl,SqL.of hl,at0,rfl,_,rfl,C9 (λe=>?_) (λe=>?_)⟩
   .have e:x=wd "of":=V.str.inj (of_decide_eq_true e);refine⟨_,rfl,p,dx,_,rfl,o1,b3t _ _ _ _ _,?_⟩
    delta M5
    refine⟨_,rfl,_,rfl,l,_,rfl,SqL.of hl,λp1 hp1=>?_⟩;rw[List.map_cons,a0W];have s1:=(Same.refl H).upd (o:=.lst (r.map V.str)) hp1;have e1:upd H p1 (.lst (r.map V.str)) p1=some (.lst (r.map V.str)):=A0;generalize upd H p1 (.lst (r.map V.str))=H1 at s1 e1;have htk:d.take (x::r)=if 1<=r.length/\r.length<=7/\r.Nodup/\∀x∈r,isNm x then some {d with names:=r} else none:=by
     unfold Dr.take;dsimp only;rw[if_pos hn0];by_cases q:1<=r.length/\r.length<=7/\r.Nodup/\∀x∈r,isNm x
     .rw[if_pos ⟨e,q⟩,if_pos q]
     .rw[if_neg λz=>q z.2,if_neg q]
    rw[htk]at k1 k2;refine⟨p,ar,as,ac,ap,p1,r,d,rfl,D.same s1,e1,hwr,λq H2 D2 off2=>k1 _ H2 (if_pos q) D2 ((s1.off).trans (off2.mono λb hb=>by rw[List.mem_singleton.mp hb];exact List.mem_cons_self)),λq H2 s2=>k2 (if_neg q) H2 (s1.trans s2)⟩
   .have e:¬x=wd "of":=λz=>e (decide_eq_true (by rw[z]));refine k2 ?_ _ (Same.refl H);unfold Dr.take;dsimp only;rw[if_pos hn0,if_neg λz=>e z.1]
  .have hn0:¬d.names=[]:=λz=>e (decide_eq_true (by rw[z];rfl));refine⟨_,rfl,l,_,_,_,rfl,rfl,SqL.of hl,at0,rfl,_,rfl,C9 (λe=>?_) (λe=>?_)⟩
   .have e:x=wd "sum":=V.str.inj (of_decide_eq_true e);refine⟨_,rfl,p,dx,_,rfl,o1,b3s _ _ _ _ _,?_⟩
    delta M5
    refine⟨_,rfl,_,rfl,l,_,rfl,SqL.of hl,λp1 hp1=>?_⟩;rw[List.map_cons,a0W];have s1:=(Same.refl H).upd (o:=.lst (r.map V.str)) hp1;have e1:upd H p1 (.lst (r.map V.str)) p1=some (.lst (r.map V.str)):=A0;generalize upd H p1 (.lst (r.map V.str))=H1 at s1 e1;have htk:d.take (x::r)=(match M0 d.names r with
      |some l=>if d.rows.length=6 then none else some {d with rows:=d.rows++[l.dropLast],sides:=d.sides++[-(l.getLastD 0)]}
      |none=>none):=by
     unfold Dr.take;dsimp only;rw[if_neg hn0,if_pos e]
     try rfl
    rw[htk]at k1 k2;refine⟨p,ar,as,ac,ap,p1,r,d,rfl,D.same s1,e1,hwr,by omega,hrl,hsl,λq H2 hq h6 D2 off2=>k1 _ H2 (by rw[hq];dsimp only;rw[if_neg h6]) D2 ((s1.off).trans (off2.mono λb hb=>by simp only[List.mem_cons,List.not_mem_nil,or_false]at hb;unfold L5;simp only[List.mem_cons];rcases hb with rfl|rfl<;>simp)),λq H2 s2=>k2 ?_ H2 (s1.trans s2)⟩;rcases q with q|q
    .rw[q]
    .cases M0 d.names r with
     |none=>rfl
     |some l=>dsimp only;rw[if_pos q]
   have e1:¬x=wd "sum":=λz=>e (decide_eq_true (by rw[z]));refine⟨_,rfl,l,_,_,_,rfl,rfl,SqL.of hl,at0,rfl,_,rfl,C9 (λe=>?_) (λe=>?_)⟩
   .have e:x=wd "cap":=V.str.inj (of_decide_eq_true e);refine⟨_,rfl,p,C,dx,_,_,rfl,o1,U.cl,U.n1,a1J _ _ _ _ _,?_⟩
    delta M5
    refine⟨_,rfl,_,rfl,l,_,rfl,SqL.of hl,λp1 hp1=>?_⟩;rw[List.map_cons,a0W];have s1:=(Same.refl H).upd (o:=.lst (r.map V.str)) hp1;have e1':upd H p1 (.lst (r.map V.str)) p1=some (.lst (r.map V.str)):=A0;generalize upd H p1 (.lst (r.map V.str))=H1 at s1 e1';have D1:=D.same s1;have htk:d.take (x::r)=(tkN d.names d.caps r).map λc=>{d with caps:=c}:=by
     unfold Dr.take;dsimp only;rw[if_neg hn0,if_neg e1,if_pos e]
    rw[htk]at k1 k2;refine⟨_,rfl,p,C,dx,_,_,rfl,s1 _ _ o1,U.cl,U.n4,b1A _ _ _ _ _,tn,p1,ac,d.names,r,d.caps,rfl,s1 _ _ o2,e1',D1.hc,hwr,hcl,λc' H2 hc' hk off2=>k1 _ H2 (by rw[hc'];rfl) ?_ ((s1.off).trans (off2.mono λb hb=>by rw[List.mem_singleton.mp hb];unfold L5;simp)),λq H2 s2=>k2 (by rw[q];rfl) H2 (s1.trans s2)⟩;obtain⟨⟨dx1,tn1,o11,o12⟩,⟨us,r1,r2⟩,hs,hc,hp,rs,cp⟩:=D1;have ne:∀{b:Addr}{o:HO},H1 b=some o->(∀xs,o≠.dK xs)->H2 b=some o:=λ{b o} hb hne=>off2 b o (λz=>by rw[List.mem_singleton.mp z,hc]at hb;injection hb with hb;exact hne _ hb.symm) hb;exact⟨⟨dx1,tn1,ne o11 (λ_ z=>nomatch z),ne o12 (λ_ z=>nomatch z)⟩,⟨us,ne r1 (λ_ z=>nomatch z),r2.1,λi v e=>let ⟨q,e1,a,e2,e3⟩:=r2.2 i v e;⟨q,e1,a,e2,ne e3 (λ_ z=>nomatch z)⟩⟩,ne hs (λ_ z=>nomatch z),hk,off2 _ _ (by simpa using cp.symm) hp,rs,cp⟩
   have e2:¬x=wd "cap":=λz=>e (decide_eq_true (by rw[z]));refine⟨_,rfl,l,_,_,_,rfl,rfl,SqL.of hl,at0,rfl,_,rfl,C9 (λe=>?_) (λe=>?_)⟩
   .have e:x=wd "price":=V.str.inj (of_decide_eq_true e);refine⟨_,rfl,p,C,dx,_,_,rfl,o1,U.cl,U.n1,a1J _ _ _ _ _,?_⟩
    delta M5
    refine⟨_,rfl,_,rfl,l,_,rfl,SqL.of hl,λp1 hp1=>?_⟩;rw[List.map_cons,a0W];have s1:=(Same.refl H).upd (o:=.lst (r.map V.str)) hp1;have e1':upd H p1 (.lst (r.map V.str)) p1=some (.lst (r.map V.str)):=A0;generalize upd H p1 (.lst (r.map V.str))=H1 at s1 e1';have D1:=D.same s1;have htk:d.take (x::r)=(tkN d.names d.prices r).map λc=>{d with prices:=c}:=by
     unfold Dr.take;dsimp only;rw[if_neg hn0,if_neg e1,if_neg e2,if_pos e]
    rw[htk]at k1 k2;refine⟨_,rfl,p,C,dx,_,_,rfl,s1 _ _ o1,U.cl,U.n5,b1z _ _ _ _ _,tn,p1,ap,d.names,r,d.prices,rfl,s1 _ _ o2,e1',D1.hp,hwr,hpl,λc' H2 hc' hk off2=>k1 _ H2 (by rw[hc'];rfl) ?_ ((s1.off).trans (off2.mono λb hb=>by rw[List.mem_singleton.mp hb];unfold L5;simp)),λq H2 s2=>k2 (by rw[q];rfl) H2 (s1.trans s2)⟩;obtain⟨⟨dx1,tn1,o11,o12⟩,⟨us,r1,r2⟩,hs,hc,hp,rs,cp⟩:=D1;have ne:∀{b:Addr}{o:HO},H1 b=some o->(∀xs,o≠.dK xs)->H2 b=some o:=λ{b o} hb hne=>off2 b o (λz=>by rw[List.mem_singleton.mp z,hp]at hb;injection hb with hb;exact hne _ hb.symm) hb;exact⟨⟨dx1,tn1,ne o11 (λ_ z=>nomatch z),ne o12 (λ_ z=>nomatch z)⟩,⟨us,ne r1 (λ_ z=>nomatch z),r2.1,λi v e=>let ⟨q,e1,a,e2,e3⟩:=r2.2 i v e;⟨q,e1,a,e2,ne e3 (λ_ z=>nomatch z)⟩⟩,ne hs (λ_ z=>nomatch z),off2 _ _ (by simpa using cp) hc,hk,rs,cp⟩
   .have e:¬x=wd "price":=λz=>e (decide_eq_true (by rw[z]));refine k2 ?_ _ (Same.refl H);unfold Dr.take;dsimp only;rw[if_neg hn0,if_neg e1,if_neg e2,if_neg e]
end
end K46
namespace K46
open PySem PySem.Spec PyProof.Rows L2
structure SysAt(H:Hp)(v:V)(ns:List Str)(rows:LLI)(sides:List Int)(caps:List (Option Int))(prices:List Int):Prop where
 ex:∃a n r s c p us,v=.ref a/\H a=some (.tup [.ref n,.ref r,.ref s,.ref c,.ref p])/\H n=some (.tup (ns.map V.str))/\H r=some (.tup us)/\Its H us rows/\H s=some (.tup (sides.map V.int))/\H c=some (.tup (caps.map ovI))/\H p=some (.tup (prices.map V.int))
theorem SysAt.same{H H':Hp}{v:V}{ns:List Str}{rows:LLI}{sides:List Int}{caps:List (Option Int)}{prices:List Int}(h:SysAt H v ns rows sides caps prices)(s:Same H H'):SysAt H' v ns rows sides caps prices :=
 let ⟨a,n,r,t,c,p,us,e,e1,e2,e3,e4,e5,e6,e7⟩:=h.ex
 ⟨a,n,r,t,c,p,us,e,s _ _ e1,s _ _ e2,s _ _ e3,e4.same s,s _ _ e5,s _ _ e6,s _ _ e7⟩
def Dr.capsL(d:Dr):List (Option Int):=d.names.map (lk d.caps)
def Dr.pricesL(d:Dr):List Int:=d.names.map λn=>(lk d.prices n).getD 0
section
variable {P:Program}{w:World}{K:PySem.W.Frag}{mg:Str->Option Value}{base:Heap}{C:Addr}
def b3W(C:Addr):Sp:=λvs H Q _=>∃(p ar as ac ap:Addr) (d:Dr),vs=[.ref p]/\DrAt C H p ar as ac ap d/\d.names.length<=7/\∀v H',SysAt H' v d.names d.rows d.sides d.capsL d.pricesL->Same H H'->Q v H'
theorem sc_Draft_whole:FnScope ["self","caps","prices"] ["self"] (A3 K9):=⟨rfl,rfl,rfl,by decide +kernel,rfl,by decide +kernel,by decide +kernel⟩
theorem a8f(FM:MethAt K C "whole" "Draft.whole" K9 ["self"])(U:DrTx K C)(T:Tx mg):MethOk P w K mg base C "whole" 1 ["self"] (b3W C):=by
 refine FM.fnJ sc_Draft_whole (λvs H Q E h=>?_) (λcdv f A outer s H vs Q E hr h=>?_)
 .obtain⟨p,ar,as,ac,ap,d,rfl,_⟩:=h;rfl
 .obtain⟨p,ar,as,ac,ap,d,rfl,D,hnl,k⟩:=h;have hu:=hr.u60;have hz:(100000:Nat)<=sizeLine:=by rw[sizeLine_eq];decide
  refine⟨_,(A1 (B3 (i:=1) sc_Draft_whole.nd rfl (Or.inl rfl) (E3 K rfl T.b_tuple (jaC (J2 (N:=["name","self"]) (src:=[none,some 0]) (X7 K (M3 K (jv 0))) (by show D0 _ _=true;rfl) (by rfl) (by rfl)
 (λ_ _ _ _ _=>(A8 (i:=0) (show(["name","self"]:List Str).Nodup by decide +kernel) rfl (Or.inl rfl))) (λ_ _ _ _ _=>E7) (λ_ _ _ _ _=>(b0u hu (M3 K (jv 1)) (jv 0)))) jaN)))
 (A1 (B3 (i:=2) sc_Draft_whole.nd rfl (Or.inl rfl) (E3 K rfl T.b_tuple (jaC (J2 (N:=["name","self"]) (src:=[none,some 0]) (X7 K (M3 K (jv 0))) (by show D0 _ _=true;rfl) (by rfl) (by rfl)
 (λ_ _ _ _ _=>(A8 (i:=0) (show(["name","self"]:List Str).Nodup by decide +kernel) rfl (Or.inl rfl))) (λ_ _ _ _ _=>E7) (λ_ _ _ _ _=>(b0t hu (M3 K (jv 1)) (jv 0) A2))) jaN)))
 (A5 (B0 (a4e (jaC (M3 K (jv 0)) (jaC (E3 K rfl T.b_tuple (jaC (M3 K (jv 0)) jaN)) (jaC (E3 K rfl T.b_tuple (jaC (M3 K (jv 0)) jaN)) (jaC (jv 1) (jaC (jv 2) jaN)))))))))),?_⟩
  obtain⟨⟨dx,tn,o1,o2⟩,⟨us,r1,r2⟩,hs,hc,hp,rs,cp⟩:=id D;refine⟨_,rfl,p,C,dx,_,_,rfl,o1,U.cl,U.n1,a1J _ _ _ _ _,tn,rfl,⟨_,SqT.of o2⟩,?_⟩;refine Y3 (vs:=d.names.map V.str) (as:=d.names) (caps:=[some (.ref p)]) (λn=>ovI (lk d.caps n)) (by rw[List.length_map];omega) (List.length_map ..) (λH' s=>SqT.of (s _ _ o2)) rfl (λi v x H1 Q1 hv hx s1 q=>?_) λH1 p1 s1 hp1=>?_
  .rw[List.getElem?_map,hx]at hv;cases hv;refine⟨_,rfl,p,C,dx,_,_,rfl,s1 _ _ o1,U.cl,U.n4,b1A _ _ _ _ _,ac,rfl,.inl ⟨_,.inl (s1 _ _ hc)⟩,_,rfl,_,DGet.k (k:=Sum.inr x) (s1 _ _ hc),?_⟩;rw[Z5];have:=q _ (Same.refl _);cases e:lk d.caps x with
   |none=>rw[e]at this;exact this
   |some y=>rw[e]at this;exact this
  have s2:=s1.upd (o:=.lst (d.names.map λn=>ovI (lk d.caps n))) hp1;have e2:upd H1 p1 (.lst (d.names.map λn=>ovI (lk d.caps n))) p1=some (.lst (d.names.map λn=>ovI (lk d.caps n))):=A0;generalize upd H1 p1 (.lst (d.names.map λn=>ovI (lk d.caps n)))=H2 at s2 e2;refine⟨p1,_,rfl,.inl ⟨SqL.of e2,λc1 hc1=>?_⟩⟩;have s3:=s2.upd (o:=.tup (d.names.map λn=>ovI (lk d.caps n))) hc1;have e3:upd H2 c1 (.tup (d.names.map λn=>ovI (lk d.caps n))) c1=some (.tup (d.names.map λn=>ovI (lk d.caps n))):=A0;generalize upd H2 c1 (.tup (d.names.map λn=>ovI (lk d.caps n)))=H3 at s3 e3;dsimp only[A9];refine⟨_,rfl,p,C,dx,_,_,rfl,s3 _ _ o1,U.cl,U.n1,a1J _ _ _ _ _,tn,rfl,⟨_,SqT.of (s3 _ _ o2)⟩,?_⟩;refine Y3 (vs:=d.names.map V.str) (as:=d.names) (caps:=[some (.ref p)]) (λn=>V.int ((lk d.prices n).getD 0)) (by rw[List.length_map];omega) (List.length_map ..) (λH' s=>SqT.of (s _ _ (s3 _ _ o2))) rfl (λi v x H4 Q4 hv hx s4 q=>?_) λH4 p4 s4 hp4=>?_
  .rw[List.getElem?_map,hx]at hv;cases hv;refine⟨_,rfl,p,C,dx,_,_,rfl,s4 _ _ (s3 _ _ o1),U.cl,U.n5,b1z _ _ _ _ _,ap,rfl,.inl ⟨_,.inl (s4 _ _ (s3 _ _ hp))⟩,_,rfl,_,DGet.k (k:=Sum.inr x) (s4 _ _ (s3 _ _ hp)),?_⟩;rw[Z5];have:=q _ (Same.refl _);cases e:lk d.prices x with
   |none=>rw[e]at this;exact this
   |some y=>rw[e]at this;exact this
  have s5:=s4.upd (o:=.lst (d.names.map λn=>V.int ((lk d.prices n).getD 0))) hp4;have e5:upd H4 p4 (.lst (d.names.map λn=>V.int ((lk d.prices n).getD 0))) p4=some (.lst (d.names.map λn=>V.int ((lk d.prices n).getD 0))):=A0;generalize upd H4 p4 (.lst (d.names.map λn=>V.int ((lk d.prices n).getD 0)))=H5 at s5 e5;refine⟨p4,_,rfl,.inl ⟨SqL.of e5,λc2 hc2=>?_⟩⟩;have s6:=s5.upd (o:=.tup (d.names.map λn=>V.int ((lk d.prices n).getD 0))) hc2;have e6:upd H5 c2 (.tup (d.names.map λn=>V.int ((lk d.prices n).getD 0))) c2=some (.tup (d.names.map λn=>V.int ((lk d.prices n).getD 0))):=A0;generalize upd H5 c2 (.tup (d.names.map λn=>V.int ((lk d.prices n).getD 0)))=H6 at s6 e6;dsimp only[A9];have s6':=s3.trans s6;refine⟨_,rfl,p,C,dx,_,_,rfl,s6' _ _ o1,U.cl,U.n1,a1J _ _ _ _ _,_,rfl,p,C,dx,_,_,rfl,s6' _ _ o1,U.cl,U.n2,a8W _ _ _ _ _,ar,us,rfl,.inl ⟨SqL.of (s6' _ _ r1),λq1 hq1=>?_⟩⟩;have s7:=(Same.refl H6).upd (o:=.tup us) hq1;have e7:upd H6 q1 (.tup us) q1=some (.tup us):=A0;generalize upd H6 q1 (.tup us)=H7 at s7 e7;have s7':=s6'.trans s7;refine⟨_,rfl,p,C,dx,_,_,rfl,s7' _ _ o1,U.cl,U.n3,b1y _ _ _ _ _,as,_,rfl,.inl ⟨SqL.of (s7' _ _ hs),λq2 hq2=>?_⟩⟩;have s8:=(Same.refl H7).upd (o:=.tup (d.sides.map V.int)) hq2;have e8:upd H7 q2 (.tup (d.sides.map V.int)) q2=some (.tup (d.sides.map V.int)):=A0;generalize upd H7 q2 (.tup (d.sides.map V.int))=H8 at s8 e8;refine⟨_,rfl,_,rfl,by show 5<=sizeLine;omega,λq hq=>?_⟩;have s9:=(Same.refl H8).upd (o:=.tup [.ref tn,.ref q1,.ref q2,.ref c1,.ref c2]) hq;have s89:=s8.trans s9;have s79:=s7.trans s89;refine k _ _ ⟨q,tn,q1,q2,c1,c2,us,rfl,A0,s79 _ _ (s6' _ _ o2),s89 _ _ e7,(r2.same (s6'.trans s79)),s9 _ _ e8,s79 _ _ (s6 _ _ (by rw[e3,Dr.capsL,List.map_map];rfl)),s79 _ _ (by rw[e6,Dr.pricesL,List.map_map];rfl)⟩ (s6'.trans s79)
noncomputable def B4:Dr->List (List Str)->Option Dr
 |d,[]=>some d
 |d,ws::L=>(d.take ws).bind λd'=>B4 d' L
theorem a0z:∀(L:List (List Str)) (d:Dr) (ws:List Str),B4 d (L++[ws])=(B4 d L).bind λd'=>d'.take ws
 |[],d,ws=>by
  show(d.take ws).bind (λd'=>some d')=d.take ws;cases d.take ws<;>rfl
 |a::L,d,ws=>by
  show(d.take a).bind (λd'=>B4 d' (L++[ws]))=((d.take a).bind λd'=>B4 d' L).bind _;cases d.take a with
  |none=>rfl
  |some d'=>exact a0z L d' ws
theorem a4A{L:List (List Str)}{d d':Dr}(h:B4 d L=some d'):∀i,∃e,B4 d (L.take i)=some e:=by
 induction L generalizing d with
 |nil=>intro i;exact⟨d,by simp[B4]⟩
 |cons a L ih =>
  intro i;cases i with
  |zero=>exact⟨d,rfl⟩
  |succ i =>
   have h:(d.take a).bind (λd'=>B4 d' L)=some d':=h;cases e:d.take a with
   |none=>rw[e]at h;cases h
   |some q =>
    rw[e]at h;obtain⟨r,hr⟩:=ih h i;exact⟨r,by show(d.take a).bind (λd'=>B4 d' (L.take i))=_;rw[e];exact hr⟩
structure Dr.Bd(d:Dr)(i:Nat):Prop where
 n:d.names.length<=7
 r:d.rows.length<=6
 s:d.sides.length=d.rows.length
 c:d.caps.length<=i
 p:d.prices.length<=i
theorem a5h{ns:List Str}{c c':List (Str×Int)}{ws:List Str}(h:tkN ns c ws=some c'):c'.length=c.length+1:=by
 match ws,h with
 |[n,f],h =>
  unfold tkN at h;dsimp only at h;split at h
  .cases e:rdN f with
   |none=>rw[e]at h;cases h
   |some x=>rw[e]at h;cases h;simp
  .cases h
theorem a9h{d d':Dr}{ws:List Str}{i:Nat}(h:d.take ws=some d')(b:d.Bd i):d'.Bd (i+1):=by
 obtain⟨bn,br,bs,bc,bp⟩:=b
 match ws,h with
 |w::r,h =>
  unfold Dr.take at h;dsimp only at h;split at h
  .split at h
   .rename_i q;cases h;exact⟨q.2.2.1,br,bs,by show d.caps.length<=_;omega,by show d.prices.length<=_;omega⟩
   .cases h
  .split at h
   .split at h
    .split at h
     .cases h
     .cases h;exact⟨bn,by show(d.rows++_).length<=6;rw[List.length_append,List.length_singleton];omega,by show(d.sides++_).length=(d.rows++_).length;simp[bs],by show d.caps.length<=_;omega,by show d.prices.length<=_;omega⟩
    .cases h
   .split at h
    .obtain⟨c',e1,rfl⟩:=Option.map_eq_some_iff.mp h;exact⟨bn,br,bs,by show c'.length<=_;rw[a5h e1];omega,by show d.prices.length<=_;omega⟩
    .split at h
     .obtain⟨c',e1,rfl⟩:=Option.map_eq_some_iff.mp h;exact⟨bn,br,bs,by show d.caps.length<=_;omega,by show c'.length<=_;rw[a5h e1];omega⟩
     .cases h
theorem a1e:∀{L:List (List Str)}{d d':Dr}{i:Nat},B4 d L=some d'->d.Bd i->d'.Bd (i+L.length)
 |[],d,d',i,h,b=>by cases h;exact b
 |a::L,d,d',i,h,b=>by
  have h:(d.take a).bind (λd'=>B4 d' L)=some d':=h;cases e:d.take a with
  |none=>rw[e]at h;cases h
  |some q =>
   rw[e]at h;have:=a1e h (a9h e b);rw[List.length_cons,show i+(L.length+1)=i+1+L.length by omega];exact this
structure Wl(ws:List Str):Prop where
 ne:ws≠[]
 wk:Wks ws
 no:∀x∈ws,32∉x.cps.toList/\10∉x.cps.toList
 le:(Str.join bk ws).length<=10000
theorem Wl.split{ws:List Str}(h:Wl ws):PySem.Txt.split (Str.join bk ws) bk=ws:=a1g h.ne λa ha=>(h.no a ha).1
def lnW(L:List (List Str)):List Str:=L.map (Str.join bk)
def ptW(L:List (List Str)):Str:=Str.join lf (lnW L)
theorem a6c{L:List (List Str)}(h0:L≠[])(h:∀ws∈L,Wl ws):PySem.Txt.split (ptW L) lf=lnW L:=by
 refine a1g (λz=>h0 (List.map_eq_nil_iff.mp z)) λa ha=>?_;obtain⟨ws,hw,rfl⟩:=List.mem_map.mp ha;exact a3U (by decide) λy hy=>((h ws hw).no y hy).2
theorem a2U{L:List (List Str)}(h:∀ws∈L,Wl ws)(hl:L.length<=900):(ptW L).length<=10000000:=by
 have:=K2 (c:=10) (B:=10000) (ys:=lnW L) λy hy=>by
  obtain⟨ws,hw,rfl⟩:=List.mem_map.mp hy;exact(h ws hw).le
 rw[show(lnW L).length=L.length by simp[lnW]]at this;exact Nat.le_trans this (Nat.le_trans (show _<=900*10001 from Nat.mul_le_mul hl (Nat.le_refl _)) (by decide))
def b0Q(C:Addr):Sp:=λvs H Q _=>∃(p ar as ac ap l:Addr) (L:List (List Str)) (d d':Dr),vs=[.ref p,.ref l]/\DrAt C H p ar as ac ap d/\H l=some (.lst ((lnW L).map V.str))/\l∉L5 p ar as ac ap/\(∀ws∈L,Wl ws)/\L.length<=900/\d.Bd 0/\B4 d L=some d'/\∀H',DrAt C H' p ar as ac ap d'->Off (L5 p ar as ac ap) H H'->Q .non H'
theorem sc_take_all:FnScope ["draft","lines","number","line"] ["draft","lines"] (A3 S3):=⟨rfl,rfl,rfl,by decide +kernel,rfl,by decide +kernel,by decide +kernel⟩
theorem a3N(F:FunAt K mg "take_all" S3 ["draft","lines"])(T:Tx mg)(CL_Draft:Cls K C)(O_Draft_take:MethOk P w K mg base C "take" 8 ["self","words"] (b3X C)):Ok P w K mg base "take_all" 9 ["draft","lines"] (b0Q C):=by
 refine F.okJ sc_take_all (λvs H Q E h=>?_) (λcdv f A outer s H vs Q E hr h=>?_)
 .obtain⟨p,ar,as,ac,ap,l,L,d,d',rfl,_⟩:=h;rfl
 .obtain⟨p,ar,as,ac,ap,l,L,d,d',rfl,D,hL,hl5,hW,hlen,hbd,htk,k⟩:=h;have hz:(300000:Nat)<=sizeLine:=by rw[sizeLine_eq];decide
  refine⟨_,(A5 (R3 (a8y K rfl T.b_enumerate (jaC (jv 1) jaN)) (K4 K 2 (B1 (A8 (i:=2) sc_take_all.nd rfl (Or.inl rfl)) (B1 (A8 (i:=3) sc_take_all.nd rfl (Or.inl rfl)) E8)))
 (A5 (C0 (V1 (T0 K (a4R O_Draft_take CL_Draft (hr.mono (by omega)) (jv 0) (jaC (a4c K (jv 3) (jaC B2 jaN)) jaN))))
 (A5 a8w)
 B6)))),?_⟩
  refine⟨_,rfl,false,l,rfl,⟨_,SqL.of hL⟩,?_⟩;refine a6A (K:=K) (k:=false) (a:=l) (xs:=(lnW L).map V.str) (λi σ H'=>∃o2 o3 e,σ=[some (.ref p),some (.ref l),o2,o3]/\B4 d (L.take i)=some e/\DrAt C H' p ar as ac ap e/\Off (L5 p ar as ac ap) H H') ⟨_,_,d,rfl,rfl,D,Off.refl _ _⟩ (λi σ H' _ ⟨_,_,_,_,_,_,o⟩=>SqL.of (o _ _ hl5 hL)) ?_ ?_
  .rintro i x σ H1 q hx ⟨o2,o3,e,rfl,he,D1,off1⟩ hq;have s2:=(Same.refl H1).upd (o:=.tup [V.int (1+i),x]) hq;have D2:=D1.same s2;have off2:=off1.trans s2.off;have eq2:upd H1 q (.tup [V.int (1+i),x]) q=some (.tup [V.int (1+i),x]):=A0;generalize upd H1 q (.tup [V.int (1+i),x])=H2 at D2 off2 eq2;refine⟨q,_,rfl,SqT.of eq2,rfl,_,[x],rfl,x,[],rfl,rfl,?_⟩;dsimp only[A9];rw[lnW,List.map_map,List.getElem?_map]at hx;obtain⟨ws,hws,rfl⟩:=Option.map_eq_some_iff.mp hx;have hw:=hW ws (List.mem_of_getElem? hws);obtain⟨⟨dx,tn,o1,_⟩,_⟩:=id D2;have hil:i<L.length:=(List.getElem?_eq_some_iff.mp hws).1;obtain⟨e',he'⟩:=a4A htk (i+1);have hst:B4 d (L.take (i+1))=e.take ws:=by
    rw[List.take_add_one,hws];show B4 d (L.take i++[ws])=_;rw[a0z,he];rfl
   have hbe:=a1e he hbd;have htl:=List.length_take_le i L;refine⟨_,rfl,p,dx,_,rfl,o1,a8V _ _ _ _ _,_,rfl,rfl,_,bk,rfl,rfl,by decide,by show(Str.join bk ws).length+2<=_;have:=hw.le;omega,λp3 hp3=>?_⟩;rw[show PySem.Txt.split ((V.str ∘ Str.join bk) ws |> λ_=>Str.join bk ws) bk=ws from hw.split];have s3:=(Same.refl H2).upd (o:=.lst (ws.map V.str)) hp3;have D3:=D2.same s3;have off3:=off2.trans s3.off;refine⟨p,ar,as,ac,ap,p3,ws,e,rfl,D3,A0,hw.wk,hw.ne,hbe.n,hbe.r,by have:=hbe.r;have:=hbe.s;omega,by have:=hbe.c;rw[List.length_take]at this;omega,by have:=hbe.p;rw[List.length_take]at this;omega,λd2 H4 hd2 D4 off4=>⟨_,rfl,L6 ⟨_,_,d2,rfl,hst.trans hd2,D4,off3.trans off4⟩⟩,λhno=>?_⟩;rw[<-hst,he']at hno;cases hno
  .rintro σ H1 ⟨o2,o3,e,rfl,he,D1,off1⟩;rw[show((lnW L).map V.str).length=L.length by simp[lnW],List.take_length,htk]at he;cases he;exact k _ D1 off1
def b0Y:Sp:=λvs H Q _=>∃(L:List (List Str)) (d:Dr),vs=[.str (ptW L)]/\L≠[]/\(∀ws∈L,Wl ws)/\L.length<=900/\B4 dr0 L=some d/\∀v H',SysAt H' v d.names d.rows d.sides d.capsL d.pricesL->Same H H'->Q v H'
theorem sc_read_system:FnScope ["text","draft"] ["text"] (A3 K7):=⟨rfl,rfl,rfl,by decide +kernel,rfl,by decide +kernel,by decide +kernel⟩
theorem bd0:dr0.Bd 0:=⟨by decide,by decide,rfl,Nat.le_refl _,Nat.le_refl _⟩
theorem a1n(F:FunAt K mg "read_system" K7 ["text"])(T:Tx mg)(U:DrTx K C)(CL_Draft:Cls K C)(O_Draft:MakeOk P w K mg base "Draft" C 1 ["self"] (a5m C))(O_take_all:Ok P w K mg base "take_all" 9 ["draft","lines"] (b0Q C))(O_Draft_whole:MethOk P w K mg base C "whole" 1 ["self"] (b3W C)):Ok P w K mg base "read_system" 10 ["text"] b0Y:=by
 refine F.okJ sc_read_system (λvs H Q E h=>?_) (λcdv f A outer s H vs Q E hr h=>?_)
 .obtain⟨L,d,rfl,_⟩:=h;rfl
 .obtain⟨L,d,rfl,h0,hW,hlen,htk,k⟩:=h;have hz:(16777216:Nat)<=sizeLine:=by rw[sizeLine_eq];decide
  refine⟨_,(A1 (B3 (i:=1) sc_read_system.nd rfl (Or.inl rfl) (b0r O_Draft (hr.mono (by omega)) rfl))
 (A1 (C4 (A7 O_take_all (hr.mono (by omega)) rfl (jaC (jv 1) (jaC (a4c K (jv 0) (jaC B2 jaN)) jaN))))
 (A5 (B0 (b0q O_Draft_whole CL_Draft (hr.mono (by omega)) (jv 1)))))),?_⟩
  refine λx dx hx hdx hne=>?_;have hx':upd H dx (.own x) x=none:=by rw[A6 hne.symm];exact hx
  have s0:Same H (upd (upd H dx (.own x)) x (.ins C dx [])):=((Same.refl H).upd hdx).upd hx';refine⟨x,dx,rfl,A0,λar as ac ap H1 har has hac hap D1 kp=>⟨rfl,?_⟩⟩;have s1:Same H H1:=λb o e=>kp b o (s0 b o e) (A4 e hx);dsimp only[A9];have hpl:=a2U hW hlen;refine⟨_,rfl,_,rfl,rfl,_,lf,rfl,rfl,by decide,by omega,λp3 hp3=>?_⟩;rw[a6c h0 hW];have s3:=(Same.refl H1).upd (o:=.lst ((lnW L).map V.str)) hp3;have hno:p3∉L5 x ar as ac ap:=by
   obtain⟨⟨dx1,tn1,o1,o2⟩,⟨us,r1,r2⟩,hs,hc,hp,rs,cp⟩:=D1;unfold L5;simp only[List.mem_cons,List.not_mem_nil,or_false,not_or];exact⟨(A4 o1 hp3).symm,(A4 r1 hp3).symm,(A4 hs hp3).symm,(A4 hc hp3).symm,(A4 hp hp3).symm⟩
  refine⟨x,ar,as,ac,ap,p3,L,dr0,d,rfl,D1.same s3,A0,hno,hW,hlen,bd0,htk,λH4 D4 off4=>?_⟩;have hbd:=a1e htk bd0;obtain⟨⟨dx4,tn4,o4,_⟩,_⟩:=id D4;have s4:Same H H4:=λb o e=>off4 b o (by
   unfold L5;simp only[List.mem_cons,List.not_mem_nil,or_false,not_or];exact⟨A4 e hx,A4 e (s0.free har),A4 e (s0.free has),A4 e (s0.free hac),A4 e (s0.free hap)⟩) (s3 _ _ (s1 _ _ e))
  refine⟨_,rfl,x,dx4,_,rfl,o4,b3r _ _ _ _ _,x,ar,as,ac,ap,d,rfl,D4,hbd.n,λv H5 hv s5=>k v H5 hv (s4.trans s5)⟩
end
theorem N5(a b c:Str):a++b++c=a++(b++c):=Str.ext' (by rw[Str.cps_append,Str.cps_append,Str.cps_append,Str.cps_append,Array.append_assoc])
theorem a4Q(s x y:Str)(r:List Str):Str.join s (x::y::r)=x++s++Str.join s (y::r):=rfl
theorem R8{s:Str}:∀{a b:List Str},a≠[]->b≠[]->Str.join s (a++b)=Str.join s a++s++Str.join s b
 |[],_,h,_=>absurd rfl h
 |[x],b,_,h=>by
  cases b with
  |nil=>exact absurd rfl h
  |cons y r=>rfl
 |x::y::r,b,_,h=>by
  show x++s++Str.join s ((y::r)++b)=(x++s++Str.join s (y::r))++s++Str.join s b;rw[R8 (by intro z;cases z) h];simp only[N5]
def J4:List (List Str)->List Str
 |[]=>[]
 |[t]=>t
 |t::u::r=>t++wd "+" :: J4 (u::r)
abbrev wplus:Str:=Str.ofString " + "
theorem a3K:∀{ts:List (List Str)},ts≠[]->(∀t∈ts,t≠[])->J4 ts≠[]
 |[],h,_=>absurd rfl h
 |[t],_,h=>h t List.mem_cons_self
 |t::u::r,_,h=>λz=>by
  have:t=[]:=(List.append_eq_nil_iff.mp z).1;exact h t List.mem_cons_self this
theorem a0u:∀{ts:List (List Str)},(∀t∈ts,t≠[])->Str.join wplus (ts.map (Str.join bk))=Str.join bk (J4 ts)
 |[],_=>rfl
 |[t],_=>rfl
 |t::u::r,h=>by
  have ih:=a0u (ts:=u::r) λx hx=>h x (List.mem_cons_of_mem _ hx);have hn:J4 (u::r)≠[]:=a3K (by intro z;cases z) λx hx=>h x (List.mem_cons_of_mem _ hx);show Str.join bk t++wplus++Str.join wplus ((u::r).map (Str.join bk))=Str.join bk (t++wd "+" :: J4 (u::r));rw[ih,R8 (h t List.mem_cons_self) (by intro z;cases z)];cases e:J4 (u::r)with
  |nil=>exact absurd e hn
  |cons y q =>
   rw[a4Q];have:wplus=bk++(wd "+" ++ bk):=by with_unfolding_all rfl
   rw[this];simp only[N5]
theorem a2V:∀(t:List Str) (s:List (List Str)×List Str),wd "+"∉t->t.foldl E6 s=(s.1,s.2++t)
 |[],s,_=>by simp
 |x::r,s,h=>by
  rw[List.foldl_cons,a2V r _ λz=>h (List.mem_cons_of_mem _ z)];have:E6 s x=(s.1,s.2++[x]):=by
   unfold E6;rw[if_neg λz=>h (by rw[z];exact List.mem_cons_self)]
  rw[this];simp
theorem a2m:∀(ts:List (List Str)) (D:List (List Str)),ts≠[]->(∀t∈ts,wd "+"∉t)->(let s:=(J4 ts).foldl E6 (D,[]);s.1++[s.2])=D++ts
 |[],_,h,_=>absurd rfl h
 |[t],D,_,h=>by
  show((t.foldl E6 (D,[])).1++[(t.foldl E6 (D,[])).2])=_;rw[a2V t _ (h t List.mem_cons_self)];rfl
 |t::u::r,D,_,h=>by
  have ih:=a2m (u::r) (D++[t]) (by intro z;cases z) λx hx=>h x (List.mem_cons_of_mem _ hx);show(((t++wd "+" :: J4 (u::r)).foldl E6 (D,[])).1++[((t++wd "+" :: J4 (u::r)).foldl E6 (D,[])).2])=_;rw[List.foldl_append,a2V t _ (h t List.mem_cons_self),List.foldl_cons];have:E6 (D,[]++t) (wd "+")=(D++[t],[]):=by
   unfold E6;rw[if_pos rfl];simp
  rw[this];refine Eq.trans ih ?_;simp
theorem a7H{ts:List (List Str)}(h0:ts≠[])(h:∀t∈ts,wd "+"∉t):prt (J4 ts)=ts:=by
 have:=a2m ts [] h0 h;rw[List.nil_append]at this;exact this
structure Nms(ns:List Str):Prop where
 nd:ns.Nodup
 nm:∀n∈ns,isNm n
theorem isNm.ne{n:Str}(h:isNm n)(x:Str)(hx:∃c∈x.cps.toList,c<97):n≠x:=λz=>by
 obtain⟨c,hc,h1⟩:=hx;have:=h.2.2 c (by rw[z];exact hc);omega
theorem isNm.fig{n:Str}(h:isNm n)(x:Int):n≠C2 x:=by
 refine h.ne _ ?_;obtain⟨c,r,e⟩:∃c r,(C2 x).cps.toList=c::r:=by
  cases e:(C2 x).cps.toList with
  |nil=>exact absurd e (a0d _)
  |cons c r=>exact⟨c,r,rfl⟩
 exact⟨c,by rw[e];exact List.mem_cons_self,by have:=V3 x.toNat c (by show c∈(C2 x).cps.toList;rw[e];exact List.mem_cons_self);omega⟩
theorem a8N{x:Int}(y:Str)(hy:∃c∈y.cps.toList,c<48∨57<c):C2 x≠y:=λz=>by
 obtain⟨c,hc,h1⟩:=hy;have:=V3 x.toNat c (by show c∈(C2 x).cps.toList;rw[z];exact hc);omega
def Tm(ns:List Str)(ws:List Str)(p:Nat×Int):Prop:=0<p.2/\p.2<=topN/\((∃n,ns[p.1]?=some n/\(ws=[C2 p.2,n]∨(p.2=1/\ws=[n])))∨(p.1=ns.length/\ws=[C2 p.2]))
theorem a8O:C2 1=wd "1":=by with_unfolding_all rfl
theorem b3k{ns:List Str}(h:ns.Nodup){j:Nat}{n:Str}(hj:ns[j]?=some n):ns.idxOf n=j:=by
 obtain⟨h1,h2,_⟩:=a3k (List.mem_of_getElem? hj);obtain⟨hjl,hjn⟩:=List.getElem?_eq_some_iff.mp hj;obtain⟨_,h2'⟩:=List.getElem?_eq_some_iff.mp h2;have hp:=List.pairwise_iff_getElem.mp h;rcases Nat.lt_trichotomy (ns.idxOf n) j with z|z|z
 .exact absurd (h2'.trans hjn.symm) (hp _ _ h1 hjl z)
 .exact z
 .exact absurd (hjn.trans h2'.symm) (hp _ _ hjl h1 z)
theorem Tm.rd{ns ws:List Str}{p:Nat×Int}(hn:Nms ns)(h:Tm ns ws p):rdT ns ws=some p:=by
 obtain⟨j,x⟩:=p;obtain⟨h0,h1,h2⟩:=h;have h0:0<x:=h0;have fin:∀f:Str,rdN f=some x->rdF j [f]=some (j,x):=λf hf=>by
  show(match rdN f with|some x=>if x=0 then none else some (j,x)|none=>none)=_;rw[hf];dsimp only;rw[if_neg (by omega)]
 have hx:rdN (C2 x)=some x:=a1j (by omega) h1;rcases h2 with⟨n,hj,h2⟩|⟨hj,rfl⟩
 .have hm:n∈ns:=List.mem_of_getElem? hj;have hi:=b3k hn.nd hj;rcases h2 with rfl|⟨h3,rfl⟩
  .have:pfT ns [C2 x,n]=(j,[C2 x]):=by
    unfold pfT;rw[show[C2 x,n].getLast?=some n from rfl];dsimp only;rw[if_pos hm,hi];rfl
   unfold rdT;rw[this];exact fin _ hx
  .have h3:x=1:=h3;have:pfT ns [n]=(j,[wd "1"]):=by
    unfold pfT;rw[show[n].getLast?=some n from rfl];dsimp only;rw[if_pos hm,hi];rfl
   unfold rdT;rw[this];refine fin _ ?_;rw[h3,a8O]at hx;rw[hx,h3]
 .have hj:j=ns.length:=hj;have hnm:C2 x∉ns:=λz=>(hn.nm _ z).fig x rfl;have:pfT ns [C2 x]=(j,[C2 x]):=by
   unfold pfT;rw[show[C2 x].getLast?=some (C2 x)from rfl];dsimp only;rw[if_neg hnm,hj]
  unfold rdT;rw[this];exact fin _ hx
theorem Tm.ne{ns ws:List Str}{p:Nat×Int}(h:Tm ns ws p):ws≠[]:=by
 obtain⟨_,_,⟨n,_,rfl|⟨_,rfl⟩⟩|⟨_,rfl⟩⟩:=h<;>intro z<;>cases z
theorem Tm.out{ns ws:List Str}{p:Nat×Int}(hn:Nms ns)(h:Tm ns ws p)(y:Str)(hy:∃c∈y.cps.toList,c<48):y∉ws:=by
 have hf:∀x:Int,y≠C2 x:=λx z=>by
  obtain⟨c,hc,h1⟩:=hy;exact a8N (x:=x) y ⟨c,hc,.inl h1⟩ z.symm
 have hnm:∀n∈ns,y≠n:=λn hn' z=>by
  obtain⟨c,hc,h1⟩:=hy;exact(hn.nm n hn').ne y ⟨c,hc,by omega⟩ z.symm
 obtain⟨_,_,⟨n,hj,rfl|⟨_,rfl⟩⟩|⟨_,rfl⟩⟩:=h<;>simp only[List.mem_cons,List.not_mem_nil,or_false,not_or]
 .exact⟨hf _,hnm n (List.mem_of_getElem? hj)⟩
 .exact hnm n (List.mem_of_getElem? hj)
 .exact hf _
theorem Tm.zero{ns ws:List Str}{p:Nat×Int}(hn:Nms ns)(h:Tm ns ws p):ws≠[wd "0"]:=by
 obtain⟨h0,_,⟨n,hj,rfl|⟨_,rfl⟩⟩|⟨_,rfl⟩⟩:=h
 .exact λz=>absurd (congrArg List.length z) (by simp)
 .intro z;injection z with z
  exact(hn.nm n (List.mem_of_getElem? hj)).fig 0 z
 .intro z;injection z with z
  have:p.2.toNat=0:=a1F (show C6 p.2.toNat=C6 0 from z);omega
inductive Tms(ns:List Str):List (List Str)->List (Nat×Int)->Prop
 |nil:Tms ns [] []
 |cons {t:List Str}{p:Nat×Int}{ts:List (List Str)}{ps:List (Nat×Int)}(h:Tm ns t p) (r:Tms ns ts ps):Tms ns (t::ts) (p::ps)
theorem Tms.all{ns:List Str}{ts:List (List Str)}{ps:List (Nat×Int)}(h:Tms ns ts ps):∀t∈ts,∃p∈ps,Tm ns t p:=by
 induction h with
 |nil=>intro t ht;cases ht
 |cons h _ ih =>
  intro t ht;rcases List.mem_cons.mp ht with rfl|z
  .exact⟨_,List.mem_cons_self,h⟩
  .obtain⟨p,hp,q⟩:=ih t z;exact⟨p,List.mem_cons_of_mem _ hp,q⟩
theorem Tms.app{ns:List Str}{ts us:List (List Str)}{ps qs:List (Nat×Int)}(h:Tms ns ts ps)(g:Tms ns us qs):Tms ns (ts++us) (ps++qs):=by
 induction h with
 |nil=>exact g
 |cons h _ ih=>exact .cons h ih
theorem Tms.rd{ns:List Str}(hn:Nms ns){ts:List (List Str)}{ps:List (Nat×Int)}(h:Tms ns ts ps):ts.filterMap (rdT ns)=ps/\(ts.map (rdT ns)).all Option.isSome=true:=by
 induction h with
 |nil=>exact⟨rfl,rfl⟩
 |cons h _ ih =>
  rw[List.filterMap_cons,List.map_cons,List.all_cons,h.rd hn];exact⟨by dsimp only;rw[ih.1],by rw[ih.2];rfl⟩
def B5(ts:List (List Str)):List Str:=if ts=[] then[wd "0"] else J4 ts
theorem a5F{ns:List Str}(hn:Nms ns){ts:List (List Str)}{ps:List (Nat×Int)}(h:Tms ns ts ps):U0 ns (B5 ts)=some (ps.foldl E4 (List.replicate (ns.length+1) 0)):=by
 unfold B5;by_cases e:ts=[]
 .rw[if_pos e];subst e;cases h;unfold U0;rw[if_pos rfl];rfl
 .rw[if_neg e];have hp:prt (J4 ts)=ts:=a7H e λt ht=>by
   obtain⟨p,_,q⟩:=h.all t ht;exact q.out hn _ ⟨43,by with_unfolding_all exact List.mem_cons_self,by decide⟩
  have hz:¬J4 ts=[wd "0"]:=λz=>by
   match ts,h,z,e with
   |[t],.cons h _,z,_=>exact h.zero hn z
   |t::u::r,.cons h _,z,_ =>
    have:=congrArg List.length z;have hl:=h.ne;simp only[J4,List.length_append,List.length_cons,List.length_nil]at this;have:0<t.length:=List.length_pos_iff.mpr hl;omega
  unfold U0;rw[if_neg hz,hp,if_pos (h.rd hn).2,(h.rd hn).1]
theorem a4i{ns:List Str}(hn:Nms ns){ts:List (List Str)}{ps:List (Nat×Int)}(h:Tms ns ts ps):wd "="∉B5 ts:=by
 unfold B5;split
 .simp only[List.mem_singleton];decide
 .have key:∀{ts:List (List Str)},(∀t∈ts,wd "="∉t)->wd "="∉J4 ts:=by
   intro ts;induction ts with
   |nil=>intro _ z;cases z
   |cons t r ih =>
    intro h;cases r with
    |nil=>exact h t List.mem_cons_self
    |cons u r =>
     show wd "="∉t++wd "+" :: J4 (u::r);rw[List.mem_append,List.mem_cons];rintro(z|z|z)
     .exact h t List.mem_cons_self z
     .exact absurd z (by decide)
     .exact ih (λx hx=>h x (List.mem_cons_of_mem _ hx)) z
  refine key λt ht=>?_;obtain⟨p,_,q⟩:=h.all t ht;have hf:∀x:Int,wd "="≠C2 x:=λx z=>a8N (x:=x) (wd "=") ⟨61,by with_unfolding_all exact List.mem_cons_self,.inr (by decide)⟩ z.symm;have hnm:∀n∈ns,wd "="≠n:=λn hn' z=>(hn.nm n hn').ne (wd "=") ⟨61,by with_unfolding_all exact List.mem_cons_self,by decide⟩ z.symm;obtain⟨_,_,⟨n,hj,rfl|⟨_,rfl⟩⟩|⟨_,rfl⟩⟩:=q<;>simp only[List.mem_cons,List.not_mem_nil,or_false,not_or]
  .exact⟨hf _,hnm n (List.mem_of_getElem? hj)⟩
  .exact hnm n (List.mem_of_getElem? hj)
  .exact hf _
theorem a7k{ns:List Str}(hn:Nms ns){ts us:List (List Str)}{ps qs:List (Nat×Int)}(h:Tms ns ts ps)(g:Tms ns us qs):M0 ns (B5 ts++wd "=" :: B5 us)=a8T (ps.foldl E4 (List.replicate (ns.length+1) 0)) (qs.foldl E4 (List.replicate (ns.length+1) 0)):=by
 have h1:=a4i hn h;have h2:=a4i hn g;have hc:(B5 ts++wd "=" :: B5 us).count (wd "=")=1:=by
  rw[List.count_append,List.count_cons,List.count_eq_zero.mpr h1,List.count_eq_zero.mpr h2];simp
 have hi:(B5 ts++wd "=" :: B5 us).idxOf (wd "=")=(B5 ts).length:=by
  rw[List.idxOf_append,if_neg h1,List.idxOf_cons_self];omega
 unfold M0;rw[if_pos hc,hi,List.take_left',List.drop_append,a5F hn h]
 .rw[List.drop_eq_nil_of_le (by omega),List.nil_append,show(B5 ts).length+1-(B5 ts).length=1 by omega];show a6G _ (U0 ns (B5 us))=_;rw[a5F hn g];rfl
 .rfl
def D9(ps:List (Nat×Int))(j:Nat):Int:=((ps.filter λp=>decide (p.1=j)).map (·.2)).sum
theorem a5P(ps:List (Nat×Int)):∀(t:List Int) (j:Nat),j<t.length->(ps.foldl E4 t).getD j 0=t.getD j 0+D9 ps j:=by
 induction ps with
 |nil=>intro t j _;simp[D9]
 |cons p r ih =>
  intro t j hj;rw[List.foldl_cons,ih (E4 t p) j (by rw[a2H];exact hj)];unfold D9 E4;rw[List.filter_cons];by_cases e:p.1=j
  .rw[if_pos (decide_eq_true e),List.map_cons,List.sum_cons];rw[List.getD_eq_getElem?_getD,List.getElem?_set,e,if_pos rfl,if_pos hj];simp only[Option.getD_some];omega
  .rw[if_neg (by simpa using e),List.getD_eq_getElem?_getD,List.getElem?_set,if_neg e,<-List.getD_eq_getElem?_getD]
end K46
namespace K46
open PySem PySem.Spec PyProof.Rows L2
def tmW(x:Int)(n:Str):List Str:=if x=1 then[n] else[C2 x,n]
def a0w(a:Int):List (List Str):=if a > 0 then[[C2 a]] else[]
def J6(ns:List Str)(xs:List Int)(a:Int):List (List Str):=((xs.zip ns).filter λq=>decide (q.1 > 0)).map (λq=>tmW q.1 q.2)++a0w a
def a1V(ns:List Str)(xs:List Int)(s:Int):List Str:=wd "sum" :: (B5 (J6 ns xs (-s))++wd "=" :: B5 (J6 ns (xs.map λx => -x) s))
def Z2(xs:List Int)(k:Nat):List (Nat×Int):=match xs with
 |[]=>[]
 |x::r=>if x > 0 then(k,x)::Z2 r (k+1)else Z2 r (k+1)
def Bds(xs:List Int):Prop:=∀x∈xs,-topN<=x/\x<=topN
theorem a7c:∀(pre ns:List Str) (xs:List Int),Bds xs->Tms (pre++ns) (((xs.zip ns).filter λq=>decide (q.1 > 0)).map λq=>tmW q.1 q.2) (Z2 (xs.take ns.length) pre.length)
 |pre,[],xs,_=>by rw[List.zip_nil_right];exact .nil
 |pre,n::ns,[],_=>.nil
 |pre,n::ns,x::xs,h=>by
  have ih:=a7c (pre++[n]) ns xs λy hy=>h y (List.mem_cons_of_mem _ hy);rw[List.append_assoc,List.length_append,List.length_singleton]at ih;rw[List.zip_cons_cons,List.filter_cons,List.length_cons,List.take_succ_cons];unfold Z2;by_cases e:x > 0
  .rw[if_pos (decide_eq_true e),if_pos e,List.map_cons];refine .cons ⟨e,(h x List.mem_cons_self).2,.inl ⟨n,by simp,?_⟩⟩ ih;show tmW x n=_∨_;unfold tmW;by_cases q:x=1
   .rw[if_pos q];exact .inr ⟨q,rfl⟩
   .rw[if_neg q];exact .inl rfl
  .rw[if_neg (by simpa using e),if_neg e];exact ih
def psA(n:Nat)(a:Int):List (Nat×Int):=if a > 0 then[(n,a)] else[]
theorem a5T{ns:List Str}{a:Int}(h:a<=topN):Tms ns (a0w a) (psA ns.length a):=by
 unfold a0w psA;by_cases e:a > 0
 .rw[if_pos e,if_pos e];exact .cons ⟨e,h,.inr ⟨rfl,rfl⟩⟩ .nil
 .rw[if_neg e,if_neg e];exact .nil
theorem a0O{ns:List Str}{xs:List Int}{a:Int}(hl:xs.length=ns.length)(hb:Bds xs)(ha:a<=topN):Tms ns (J6 ns xs a) (Z2 xs 0++psA ns.length a):=by
 have:=(a7c [] ns xs hb).app (a5T (ns:=ns) ha);rw[List.take_of_length_le (by omega)]at this;exact this
theorem R6(ps qs:List (Nat×Int))(j:Nat):D9 (ps++qs) j=D9 ps j+D9 qs j:=by
 unfold D9;rw[List.filter_append,List.map_append,List.sum_append]
theorem a2J:∀(xs:List Int) (k j:Nat),D9 (Z2 xs k) j=if k<=j then(if xs.getD (j-k) 0 > 0 then xs.getD (j-k) 0 else 0)else 0
 |[],k,j=>by simp[Z2,D9]
 |x::r,k,j=>by
  have ih:=a2J r (k+1) j;have key:D9 (Z2 (x::r) k) j=(if k=j then(if x > 0 then x else 0)else 0)+D9 (Z2 r (k+1)) j:=by
   rw[Z2];by_cases e:x > 0
   .rw[if_pos e,show(k,x)::Z2 r (k+1)=[(k,x)]++Z2 r (k+1)from rfl,R6,if_pos e];congr 1;unfold D9;by_cases q:k=j
    .simp[q]
    .simp[q]
   .rw[if_neg e,if_neg e];split<;>omega
  rw[key,ih];by_cases q:k=j
  .subst q;rw[if_pos rfl,if_pos (Nat.le_refl _),Nat.sub_self,if_neg (show ¬k+1<=k by omega)];simp
  .rw[if_neg q];by_cases q2:k<=j
   .rw[if_pos q2,if_pos (by omega),show j-k=(j-(k+1))+1 by omega,List.getD_cons_succ];omega
   .rw[if_neg q2,if_neg (by omega)];rfl
theorem a3z(n:Nat)(a:Int)(j:Nat):D9 (psA n a) j=if n=j then(if a > 0 then a else 0)else 0:=by
 unfold psA D9;by_cases e:a > 0
 .rw[if_pos e,if_pos e];by_cases q:n=j
  .simp[q]
  .simp[q]
 .rw[if_neg e,if_neg e];simp
theorem a4j{xs:List Int}{j:Nat}(h:xs.length<=j):xs.getD j 0=0:=by rw[List.getD_eq_getElem?_getD,List.getElem?_eq_none h];rfl
theorem b1Q{ns:List Str}(hn:Nms ns){xs:List Int}{s:Int}(hl:xs.length=ns.length)(hb:Bds xs)(h1 : -topN<=s)(h2:s<=topN):M0 ns (B5 (J6 ns xs (-s))++wd "=" :: B5 (J6 ns (xs.map λx => -x) s))=some (xs++[-s]):=by
 have hb':Bds (xs.map λx => -x):=λy hy=>by
  obtain⟨x,hx,rfl⟩:=List.mem_map.mp hy;obtain⟨a,b⟩:=hb x hx;unfold topN at *;omega
 have t1:=a0O (ns:=ns) (a := -s) hl hb (by unfold topN at *;omega);have t2:=a0O (ns:=ns) (xs:=xs.map λx => -x) (a:=s) (by rw[List.length_map];exact hl) hb' h2;rw[a7k hn t1 t2];have hz:List.zipWith (λa b:Int=>a-b) ((Z2 xs 0++psA ns.length (-s)).foldl E4 (List.replicate (ns.length+1) 0)) ((Z2 (xs.map λx => -x) 0++psA ns.length s).foldl E4 (List.replicate (ns.length+1) 0))=xs++[-s]:=by
  refine List.ext_getElem (by rw[List.length_zipWith,I9,I9];simp[hl]) λj h3 h4=>?_;rw[List.length_zipWith,I9,I9,List.length_replicate,Nat.min_self]at h3;have g:∀ps:List (Nat×Int),∀h:j<(ps.foldl E4 (List.replicate (ns.length+1) 0)).length,(ps.foldl E4 (List.replicate (ns.length+1) (0:Int)))[j]=D9 ps j:=λps h=>by
   have:=a5P ps (List.replicate (ns.length+1) 0) j (by rw[List.length_replicate];exact h3);rw[List.getD_eq_getElem?_getD,List.getElem?_eq_getElem h]at this;rw[show((List.replicate (ns.length+1) (0:Int)).getD j 0)=0 by rw[List.getD_eq_getElem?_getD];simp[h3]]at this;simpa using this
  rw[List.getElem_zipWith,g,g,R6,R6,a2J,a2J,a3z,a3z,if_pos (Nat.zero_le _),if_pos (Nat.zero_le _),Nat.sub_zero];by_cases q:j<xs.length
  .rw[if_neg (show ¬ns.length=j by omega),if_neg (show ¬ns.length=j by omega),List.getElem_append_left q];have e1:xs.getD j 0=xs[j]:=by rw[List.getD_eq_getElem?_getD,List.getElem?_eq_getElem q];rfl
   have e2:(xs.map λx => -x).getD j 0 = -xs[j]:=by rw[List.getD_eq_getElem?_getD,List.getElem?_map,List.getElem?_eq_getElem q];rfl
   rw[e1,e2];split<;>split<;>omega
  .have hj:j=ns.length:=by omega
   rw[a4j (by omega),a4j (by rw[List.length_map];omega),if_pos hj.symm,if_pos hj.symm,List.getElem_append_right (by omega)];simp only[List.getElem_singleton];split<;>split<;>simp<;>omega
 unfold a8T;rw[hz,if_pos];intro x hx;rcases List.mem_append.mp hx with z|z
 .exact hb x z
 .rw[List.mem_singleton.mp z];unfold topN at *;omega
def D8(ns:List Str)(cs:List (Option Int)):List (Str×Int):=(ns.zip cs).filterMap λq=>q.2.map λx=>(q.1,x)
def G6(w:Str)(ns:List Str)(cs:List (Option Int)):List (List Str):=(D8 ns cs).map λq=>[w,q.1,C2 q.2]
theorem a0o(n:Str)(ns:List Str)(c:Option Int)(cs:List (Option Int)):D8 (n::ns) (c::cs)=(match c with|some x=>(n,x)::D8 ns cs|none=>D8 ns cs):=by
 unfold D8;rw[List.zip_cons_cons,List.filterMap_cons];cases c<;>rfl
theorem D5:∀(ns:List Str) (cs:List (Option Int)),((D8 ns cs).map (·.1)).Sublist ns
 |[],_=>by simp[D8]
 |n::ns,[]=>by simp[D8]
 |n::ns,c::cs=>by
  rw[a0o];cases c with
  |none=>exact(D5 ns cs).cons n
  |some x=>exact(D5 ns cs).cons_cons n
theorem a0n{cs:List (Option Int)}{ns:List Str}(h:∀x,some x∈cs->0<=x/\x<=topN):∀q∈D8 ns cs,0<=q.2/\q.2<=topN:=λq hq=>by
 obtain⟨a,ha,e⟩:=List.mem_filterMap.mp hq;obtain⟨x,hx,rfl⟩:=Option.map_eq_some_iff.mp e;exact h x (by rw[<-hx];exact(List.of_mem_zip ha).2)
theorem V9(n m:Str)(x:Int)(c:List (Str×Int)):lk ((n,x)::c) m=if n=m then some x else lk c m:=by
 unfold lk;rw[List.find?_cons];by_cases e:n=m
 .rw[if_pos e,decide_eq_true e];rfl
 .rw[if_neg e,decide_eq_false e]
theorem Z4{c:List (Str×Int)}{n:Str}(h:n∉c.map (·.1)):lk c n=none:=by
 have:=a3b (c:=c) (n:=n);rw[decide_eq_false h]at this;cases e:lk c n with
 |none=>rfl
 |some y=>rw[e]at this;cases this
theorem a0Q:∀(ns:List Str) (cs:List (Option Int)),ns.Nodup->cs.length=ns.length->ns.map (lk (D8 ns cs))=cs
 |[],[],_,_=>rfl
 |n::ns,c::cs,h,hl=>by
  obtain⟨h1,h2⟩:=List.nodup_cons.mp h;have ih:=a0Q ns cs h2 (by simpa using hl);have hno:n∉(D8 ns cs).map (·.1):=λz=>h1 ((D5 ns cs).mem z);rw[List.map_cons,a0o];cases c with
  |none=>rw[show lk _ n=none from Z4 hno];exact congrArg _ ih
  |some x =>
   dsimp only;rw[V9,if_pos rfl];refine congrArg _ (Eq.trans (List.map_congr_left λm hm=>?_) ih);rw[V9,if_neg λz=>h1 (by rw[z];exact hm)]
theorem X2:∀(L M:List (List Str)) (d:Dr),B4 d (L++M)=(B4 d L).bind λd'=>B4 d' M
 |[],M,d=>rfl
 |a::L,M,d=>by
  show(d.take a).bind (λd'=>B4 d' (L++M))=((d.take a).bind λd'=>B4 d' L).bind _;cases d.take a with
  |none=>rfl
  |some d'=>exact X2 L M d'
theorem a3B{d:Dr}{n:Str}{x:Int}(h0:d.names≠[])(hn:n∈d.names)(hc:n∉d.caps.map (·.1))(h1:0<=x)(h2:x<=topN):d.take [wd "cap",n,C2 x]=some {d with caps:=d.caps++[(n,x)]}:=by
 unfold Dr.take;dsimp only;rw[if_neg h0,if_neg (by decide),if_pos rfl];unfold tkN;dsimp only;rw[if_pos ⟨hn,hc⟩,a1j h1 h2];rfl
theorem a1f{d:Dr}{n:Str}{x:Int}(h0:d.names≠[])(hn:n∈d.names)(hc:n∉d.prices.map (·.1))(h1:0<=x)(h2:x<=topN):d.take [wd "price",n,C2 x]=some {d with prices:=d.prices++[(n,x)]}:=by
 unfold Dr.take;dsimp only;rw[if_neg h0,if_neg (by decide),if_neg (by decide),if_pos rfl];unfold tkN;dsimp only;rw[if_pos ⟨hn,hc⟩,a1j h1 h2];rfl
theorem a1d:∀(qs:List (Str×Int)) (d:Dr),d.names≠[]->(∀q∈qs,q.1∈d.names/\0<=q.2/\q.2<=topN)->(d.caps.map (·.1)++qs.map (·.1)).Nodup->B4 d (qs.map λq=>[wd "cap",q.1,C2 q.2])=some {d with caps:=d.caps++qs}
 |[],d,_,_,_=>by simp[B4]
 |q::qs,d,h0,h,hn=>by
  obtain⟨a1,a2,a3⟩:=h q List.mem_cons_self;have hc:q.1∉d.caps.map (·.1):=λz=>(List.nodup_append.mp hn).2.2 _ z _ List.mem_cons_self rfl;show(d.take [wd "cap",q.1,C2 q.2]).bind (λd'=>B4 d' _)=_;rw[a3B h0 a1 hc a2 a3];have:=a1d qs {d with caps:=d.caps++[(q.1,q.2)]} h0 (λr hr=>h r (List.mem_cons_of_mem _ hr)) (by simpa using hn);refine Eq.trans this ?_;simp
theorem Y5:∀(qs:List (Str×Int)) (d:Dr),d.names≠[]->(∀q∈qs,q.1∈d.names/\0<=q.2/\q.2<=topN)->(d.prices.map (·.1)++qs.map (·.1)).Nodup->B4 d (qs.map λq=>[wd "price",q.1,C2 q.2])=some {d with prices:=d.prices++qs}
 |[],d,_,_,_=>by simp[B4]
 |q::qs,d,h0,h,hn=>by
  obtain⟨a1,a2,a3⟩:=h q List.mem_cons_self;have hc:q.1∉d.prices.map (·.1):=λz=>(List.nodup_append.mp hn).2.2 _ z _ List.mem_cons_self rfl;show(d.take [wd "price",q.1,C2 q.2]).bind (λd'=>B4 d' _)=_;rw[a1f h0 a1 hc a2 a3];have:=Y5 qs {d with prices:=d.prices++[(q.1,q.2)]} h0 (λr hr=>h r (List.mem_cons_of_mem _ hr)) (by simpa using hn);refine Eq.trans this ?_;simp
structure SysOk(ns:List Str)(rows:LLI)(sides:List Int)(caps:List (Option Int))(prices:List Int):Prop where
 nm:Nms ns
 n1:1<=ns.length
 n7:ns.length<=7
 rl:rows.length<=6
 rw:∀r∈rows,r.length=ns.length/\Bds r
 sl:sides.length=rows.length
 sb:Bds sides
 cl:caps.length=ns.length
 cb:∀x,some x∈caps->0<=x/\x<=topN
 pl:prices.length=ns.length
 pb:∀x∈prices,0<=x/\x<=topN
def prO(p:Int):Option Int:=if p > 0 then some p else none
def a0m(ns:List Str)(rows:LLI)(sides:List Int)(caps:List (Option Int))(prices:List Int):List (List Str) :=
 (wd "of" :: ns)::(List.zipWith (a1V ns) rows sides++(G6 (wd "cap") ns caps++G6 (wd "price") ns (prices.map prO)))
theorem a1c:∀(rows:LLI) (sides:List Int) (d:Dr),Nms d.names->d.names≠[]->sides.length=rows.length->(∀r∈rows,r.length=d.names.length/\Bds r)->Bds sides->d.rows.length+rows.length<=6->B4 d (List.zipWith (a1V d.names) rows sides)=some {d with rows:=d.rows++rows,sides:=d.sides++sides}
 |[],[],d,_,_,_,_,_,_=>by simp[B4]
 |r::rows,s::sides,d,hn,h0,hl,hr,hb,h6=>by
  obtain⟨r1,r2⟩:=hr r List.mem_cons_self;obtain⟨b1,b2⟩:=hb s List.mem_cons_self;have ht:d.take (a1V d.names r s)=some {d with rows:=d.rows++[r],sides:=d.sides++[s]}:=by
   unfold Dr.take a1V;dsimp only;rw[if_neg h0,if_pos rfl,b1Q hn r1 r2 b1 b2];dsimp only;rw[if_neg (by rw[List.length_cons]at h6;omega)];simp
  show(d.take (a1V d.names r s)).bind (λd'=>B4 d' _)=_;rw[ht];have:=a1c rows sides {d with rows:=d.rows++[r],sides:=d.sides++[s]} hn h0 (by simpa using hl) (λq hq=>hr q (List.mem_cons_of_mem _ hq)) (λq hq=>hb q (List.mem_cons_of_mem _ hq)) (by simp at h6⊢;omega);refine Eq.trans this ?_;simp
theorem b1L{ns:List Str}{rows:LLI}{sides:List Int}{caps:List (Option Int)}{prices:List Int}(h:SysOk ns rows sides caps prices):∃d,B4 dr0 (a0m ns rows sides caps prices)=some d/\d.names=ns/\d.rows=rows/\d.sides=sides/\d.capsL=caps/\d.pricesL=prices:=by
 have h0:ns≠[]:=λz=>by have:=h.n1;rw[z]at this;exact absurd this (by decide)
 have t0:dr0.take (wd "of" :: ns)=some {dr0 with names:=ns}:=by
  unfold Dr.take;dsimp only;rw[if_pos (show dr0.names=[] from rfl),if_pos ⟨rfl,h.n1,h.n7,h.nm.nd,h.nm.nm⟩]
 refine⟨⟨ns,rows,sides,D8 ns caps,D8 ns (prices.map prO)⟩,?_,rfl,rfl,rfl,a0Q ns caps h.nm.nd h.cl,?_⟩
 .show(dr0.take (wd "of" :: ns)).bind (λd'=>B4 d' _)=_;rw[t0];show B4 {dr0 with names:=ns} _=_;rw[X2,a1c rows sides {dr0 with names:=ns} h.nm h0 h.sl h.rw h.sb (by show 0+_<=6;have:=h.rl;omega)];show B4 _ _=_;have hk:∀cs:List (Option Int),(∀x,some x∈cs->0<=x/\x<=topN)->∀q∈D8 ns cs,q.1∈ns/\0<=q.2/\q.2<=topN:=λcs hcs q hq=>⟨(D5 ns cs).mem (List.mem_map.mpr ⟨q,hq,rfl⟩),a0n hcs q hq⟩;have hp:∀x,some x∈prices.map prO->0<=x/\x<=topN:=λx hx=>by
   obtain⟨p,hp,e⟩:=List.mem_map.mp hx;unfold prO at e;split at e
   .cases e;exact h.pb _ hp
   .cases e
  rw[X2,G6,a1d (D8 ns caps) _ h0 (hk caps h.cb) (by show([]++_).Nodup;exact(D5 ns caps).nodup h.nm.nd)];show B4 _ _=_;rw[G6,Y5 (D8 ns (prices.map prO)) _ h0 (hk _ hp) (by show([]++_).Nodup;exact(D5 ns _).nodup h.nm.nd)];simp[dr0]
 .unfold Dr.pricesL;have:=a0Q ns (prices.map prO) h.nm.nd (by rw[List.length_map];exact h.pl);show ns.map (λn=>(lk (D8 ns (prices.map prO)) n).getD 0)=prices;rw[show(ns.map λn=>(lk (D8 ns (prices.map prO)) n).getD 0)=(ns.map (lk (D8 ns (prices.map prO)))).map (λo=>o.getD 0) by rw[List.map_map];rfl,this,List.map_map];refine Eq.trans (List.map_congr_left λp hp=>?_) (List.map_id _);show(prO p).getD 0=p;unfold prO;obtain⟨h1,_⟩:=h.pb p hp;split
  .rfl
  .show(0:Int)=p;omega
end K46
namespace K46
open PySem PySem.Spec PyProof.Rows L2
theorem a2I{α β:Type}{K:PySem.W.Frag}{src:List (Option Nat)}{σ caps:L2.St}{Q:VK}{k1 k2:Bool}{a b:Addr}(ca:α->V)(cb:β->V){xs:List α}{ys:List β}{H:Hp}{tt:TT}{te:TE}(t:α->β->Bool)(f:α->β->V)(hl:xs.length<=1000)
  (hmono:∀H',Same H H'->SqK k1 K H' a (xs.map ca)/\SqK k2 K H' b (ys.map cb))
  (hsrc:B8 src σ=none::none::caps) (htt:∀x y H1 (Q1:Bool->Hp->Prop),x∈xs->y∈ys->Same H H1->Q1 (t x y) H1->tt (some (ca x)::some (cb y)::caps) H1 Q1) (hte:∀x y H1 Q1,x∈xs->y∈ys->t x y=true->Same H H1->(∀H2,Same H1 H2->Q1 (f x y) H2)->te (some (ca x)::some (cb y)::caps) H1 Q1)
  (hd:∀H1 p,Same H H1->H1 p=none->Q (.ref p) (upd H1 p (.lst (((xs.zip ys).filter λq=>t q.1 q.2).map λq=>f q.1 q.2)))) :
  L9 src (a8M K 2 (a2v (A9 0) (a2v (A9 1) b0z))) tt te σ Q (Itz K k1 k2 a b) H:=by
 have hz:(1000:Nat)<=sizeLine:=by rw[sizeLine_eq];decide
 refine V4 (xs:=xs.map ca) (zs:=ys.map cb) (by rw[List.length_map];omega) (λi zs H'=>Same H H'/\zs=(((xs.zip ys).take i).filter λq=>t q.1 q.2).map λq=>f q.1 q.2) ⟨Same.refl H,by simp⟩ (λi zs H' _ _ h=>⟨(hmono H' h.1).1,(hmono H' h.1).2,by rw[h.2,List.length_map];exact Nat.le_trans (List.length_filter_le _ _) (List.length_take_le _ _)⟩) ?_ ?_
 .rintro i x z zs H' p hx hy ⟨s,rfl⟩ hp;obtain⟨x',hx',e1⟩:=L7 hx;obtain⟨z',hy',e2⟩:=L7 hy;subst e1 e2;clear hx hy;have s':Same H (upd H' p (.tup [ca x',cb z'])):=s.upd hp;refine⟨p,[ca x',cb z'],rfl,SqT.of A0,rfl,ca x',[cb z'],rfl,cb z',[],rfl,rfl,?_⟩;rw[hsrc];show Sub _ (some (ca x')::some (cb z')::caps)/\_;have hzi:(xs.zip ys).take (i+1)=(xs.zip ys).take i++[(x',z')]:=by
   rw[List.take_add_one];congr 1;rw[(List.getElem?_zip_eq_some (z:=(x',z'))).mpr ⟨hx',hy'⟩];rfl
  refine⟨⟨rfl,λj v e=>?_⟩,?_⟩
  .match j,e with
   |0,e=>cases e
   |1,e=>cases e
   |j+2,e=>exact e
  .refine htt x' z' _ _ (List.mem_of_getElem? hx') (List.mem_of_getElem? hy') s' ?_;rw[hzi,List.filter_append,List.map_append];cases e:t x' z' with
   |true =>
    refine hte x' z' _ _ (List.mem_of_getElem? hx') (List.mem_of_getElem? hy') e s' λH2 s2=>⟨s'.trans s2,?_⟩;rw[List.filter_cons,if_pos e];rfl
   |false =>
    refine⟨s',?_⟩;rw[List.filter_cons,if_neg (by rw[e];decide)];simp
 .rintro zs H' ⟨s,rfl⟩ p hp;rw[List.length_map,List.length_map,List.take_of_length_le (by rw[List.length_zip];exact Nat.le_refl _)];exact hd H' p s hp
theorem a0f(x:Str):Str.empty++x=x:=Str.ext' (by rw[Str.cps_append];show #[]++x.cps=x.cps;simp)
def Wg(x:Str):Prop:=x.length<=20/\∀c∈x.cps.toList,33<=c/\c<127
theorem Wg.ok{x:Str}(h:Wg x):Wok x:=⟨by
 rw[Array.all_eq_true'];intro c hc;have:=h.2 c (by simpa using hc);exact decide_eq_true (by omega),by have:=h.1;omega⟩
theorem a2g{ws:List Str}(h0:ws≠[])(hl:ws.length<=400)(h:∀x∈ws,Wg x):Wl ws where
 ne:=h0
 wk:=⟨by omega,λx hx=>(h x hx).ok⟩
 no:=λx hx=>⟨λz=>by have:=(h x hx).2 _ z;omega,λz=>by have:=(h x hx).2 _ z;omega⟩
 le:=by
  have:=K2 (c:=32) (B:=20) (ys:=ws) λy hy=>(h y hy).1;exact Nat.le_trans this (Nat.le_trans (Nat.mul_le_mul hl (Nat.le_refl 21)) (by decide))
theorem isNm.wg{n:Str}(h:isNm n):Wg n:=⟨by have:=h.2.1;omega,λc hc=>by have:=h.2.2 c hc;omega⟩
theorem T5{x:Int}(h1:x<=topN):Wg (C2 x):=⟨by
 have:(C6 x.toNat).length<=13:=(a0e (by decide)).mpr (by unfold topN at h1;omega);show(C6 x.toNat).length<=20;omega,λc hc=>by have:=V3 x.toNat c hc;omega⟩
theorem wg_lit:Wg (wd "of")/\Wg (wd "sum")/\Wg (wd "cap")/\Wg (wd "price")/\Wg (wd "+")/\Wg (wd "=")/\Wg (wd "0"):=by
 have key:∀x:Str,x.length<=20->(x.cps.toList.all λc=>decide (33<=c/\c<127))=true->Wg x:=λx h1 h2=>⟨h1,λc hc=>of_decide_eq_true (List.all_eq_true.mp h2 c hc)⟩;refine⟨?_,?_,?_,?_,?_,?_,?_⟩<;>exact key _ (by decide) (by with_unfolding_all rfl)
theorem Tm.wg{ns t:List Str}{p:Nat×Int}(hn:Nms ns)(h:Tm ns t p):(∀x∈t,Wg x)/\t.length<=2:=by
 obtain⟨h0,h1,⟨n,hj,rfl|⟨_,rfl⟩⟩|⟨_,rfl⟩⟩:=h
 .refine⟨λx hx=>?_,by show 2<=2;decide⟩;simp only[List.mem_cons,List.not_mem_nil,or_false]at hx;rcases hx with rfl|rfl
  .exact T5 h1
  .exact(hn.nm _ (List.mem_of_getElem? hj)).wg
 .refine⟨λx hx=>?_,by show 1<=2;decide⟩;rw[List.mem_singleton.mp hx];exact(hn.nm _ (List.mem_of_getElem? hj)).wg
 .refine⟨λx hx=>?_,by show 1<=2;decide⟩;rw[List.mem_singleton.mp hx];exact T5 h1
theorem a5q:∀{ts:List (List Str)},(∀t∈ts,(∀x∈t,Wg x)/\t.length<=2)->(∀x∈J4 ts,Wg x)/\(J4 ts).length<=3*ts.length
 |[],_=>⟨λx hx=>(nomatch hx),Nat.le_refl _⟩
 |[t],h=>⟨(h t List.mem_cons_self).1,by have:=(h t List.mem_cons_self).2;show t.length<=3*1;omega⟩
 |t::u::r,h=>by
  obtain⟨i1,i2⟩:=a5q (ts:=u::r) λx hx=>h x (List.mem_cons_of_mem _ hx);obtain⟨j1,j2⟩:=h t List.mem_cons_self;refine⟨λx hx=>?_,?_⟩
  .rcases List.mem_append.mp (show x∈t++wd "+" :: J4 (u::r)from hx)with z|z
   .exact j1 x z
   .rcases List.mem_cons.mp z with z|z
    .rw[z];exact wg_lit.2.2.2.2.1
    .exact i1 x z
  .show(t++wd "+" :: J4 (u::r)).length<=_;rw[List.length_append,List.length_cons,List.length_cons];rw[List.length_cons]at i2;rw[List.length_cons];omega
theorem T4{ts:List (List Str)}(h:∀t∈ts,(∀x∈t,Wg x)/\t.length<=2):(∀x∈B5 ts,Wg x)/\(B5 ts).length<=3*ts.length+1/\((∀t∈ts,t≠[])->B5 ts≠[]):=by
 unfold B5;by_cases e:ts=[]
 .rw[if_pos e];exact⟨λx hx=>by rw[List.mem_singleton.mp hx];exact wg_lit.2.2.2.2.2.2,by simp,λ_ z=>by cases z⟩
 .rw[if_neg e];obtain⟨h1,h2⟩:=a5q h;exact⟨h1,by omega,λhne=>a3K e hne⟩
theorem a3A(ns:List Str)(xs:List Int)(a:Int):(J6 ns xs a).length<=xs.length+1:=by
 unfold J6 a0w;rw[List.length_append,List.length_map];have h1:=List.length_filter_le (λq:Int×Str=>decide (q.1 > 0)) (xs.zip ns);have h2:(xs.zip ns).length<=xs.length:=by rw[List.length_zip];exact Nat.min_le_left _ _
 split
 .rw[List.length_singleton];omega
 .rw[List.length_nil];omega
section
variable {P:Program}{w:World}{K:PySem.W.Frag}{mg:Str->Option Value}{base:Heap}
def b0T:Sp:=λvs H Q _=>∃(x:Int) (n:Str),vs=[.int x,.str n]/\0<x/\x<=topN/\n.length<=20/\Q (.str (Str.join bk (tmW x n))) H
theorem a2P:FnScope ["many","name"] ["many","name"] (A3 O3):=⟨rfl,rfl,rfl,by decide +kernel,rfl,by decide +kernel,by decide +kernel⟩
theorem a2Y(F:FunAt K mg "show_term" O3 ["many","name"])(T:Tx mg):Ok P w K mg base "show_term" 1 ["many","name"] b0T:=by
 refine F.okJ a2P (λvs H Q E h=>?_) (λcdv f A outer s H vs Q E hr h=>?_)
 .obtain⟨x,n,rfl,_⟩:=h;rfl
 .obtain⟨x,n,rfl,h0,h1,hn,k⟩:=h;have hz:(100000:Nat)<=sizeLine:=by rw[sizeLine_eq];decide
  refine⟨_,(A5 (B0 (a4h (N9 (jv 0) A2) (jv 1) (a8B (K3 (jv 0) (N4 B2 (K3 (jv 1) Z9))))))),?_⟩;refine⟨_,rfl,rfl,_,rfl,C9 (λe=>?_) (λe=>?_)⟩
  .have e:x=1:=V.int.inj (of_decide_eq_true e);rw[tmW,if_pos e]at k;exact⟨_,rfl,k⟩
  .have e:¬x=1:=λz=>e (decide_eq_true (by rw[z]));rw[tmW,if_neg e]at k;have hf:=(T5 h1).1;have hx:x=((x.toNat:Nat):Int):=by omega
   refine⟨_,rfl,.inr ⟨x.toNat,by rw[<-hx],Nat.lt_of_le_of_lt (show x.toNat<=1000000000000 by unfold topN at h1;omega) (by decide +kernel),?_⟩⟩;rw[a0f];have l1:(C6 x.toNat).length<=20:=hf;refine⟨by omega,_,rfl,?_⟩;have l2:(C6 x.toNat++bk).length<=21:=by rw[B7,show bk.length=1 from rfl];omega
   have l3:(C6 x.toNat++bk++n).length<=41:=by rw[B7];omega
   refine⟨show(C6 x.toNat++bk).length<=_ by omega,_,rfl,.inl ⟨n,rfl,by omega,show(C6 x.toNat++bk++n).length<=_ by omega,show(C6 x.toNat++bk++n).length<=_ by omega,?_⟩⟩;exact k
def a7m(K:PySem.W.Frag):Sp:=λvs H Q _=>∃(nt np:Addr) (k:Bool) (ns:List Str) (xs:List Int) (a:Int),vs=[.ref nt,.ref np,.int a]/\H nt=some (.tup (ns.map V.str))/\(∀H',Same H H'->SqK k K H' np (xs.map V.int))/\Nms ns/\ns.length<=7/\xs.length=ns.length/\Bds xs/\a<=topN/\∀H',Same H H'->Q (.str (Str.join bk (B5 (J6 ns xs a)))) H'
theorem sc_show_terms:FnScope ["names","numbers","alone","terms"] ["names","numbers","alone"] (A3 M6):=⟨rfl,rfl,rfl,by decide +kernel,rfl,by decide +kernel,by decide +kernel⟩
theorem a2s{t:List Str}(h:∀x∈t,Wg x)(hl:t.length<=2):(Str.join bk t).length<=42:=by
 have:=K2 (c:=32) (B:=20) (ys:=t) λy hy=>(h y hy).1;exact Nat.le_trans this (Nat.mul_le_mul hl (Nat.le_refl 21))
theorem a1Y(F:FunAt K mg "show_terms" M6 ["names","numbers","alone"])(T:Tx mg)(O_show_term:Ok P w K mg base "show_term" 1 ["many","name"] b0T):Ok P w K mg base "show_terms" 2 ["names","numbers","alone"] (a7m K):=by
 refine F.okJ sc_show_terms (λvs H Q E h=>?_) (λcdv f A outer s H vs Q E hr h=>?_)
 .obtain⟨nt,np,k,ns,xs,a,rfl,_⟩:=h;rfl
 .obtain⟨nt,np,k,ns,xs,a,rfl,hn,hx,hnm,hn7,hl,hb,ha,kk⟩:=h;have hz:(100000:Nat)<=sizeLine:=by rw[sizeLine_eq];decide
  refine⟨_,(A1 (O9 (i:=3) sc_show_terms.nd rfl (Or.inl rfl) (N:=["many","name"]) (src:=[none,none]) (T3 K rfl T.b_zip (jaC (jv 1) (jaC (jv 0) jaN))) (by show D0 _ _=true;rfl) (by rfl) (by rfl)
 (λ_ _ _ _ _=>(K4 K 2 (B1 (A8 (i:=0) (show(["many","name"]:List Str).Nodup by decide +kernel) rfl (Or.inl rfl)) (B1 (A8 (i:=1) (show(["many","name"]:List Str).Nodup by decide +kernel) rfl (Or.inl rfl)) E8)))) (λ_ _ _ _ _=>(a1v (T7 (jv 0) A2))) (λ_ _ _ _ _=>(A7 O_show_term (hr.mono (by omega)) rfl (jaC (jv 0) (jaC (jv 1) jaN)))))
 (A1 (C0 (T7 (jv 2) A2)
 (A5 (C4 (C8 K (jv 3) (jaC (a0U rfl T.b_str (jaC (jv 2) jaN)) jaN))))
 B6)
 (A5 (B0 (a4h (T7 (G0 K rfl T.b_len (jaC (jv 3) jaN)) A2) (a0T K B2 (jaC (jv 3) jaN)) B2))))),?_⟩
  have tm:=a0O hl hb ha;have tw:∀t∈J6 ns xs a,(∀x∈t,Wg x)/\t.length<=2:=λt ht=>by obtain⟨p,_,q⟩:=tm.all t ht;exact q.wg hnm
  have tl:=a3A ns xs a;refine⟨_,rfl,_,rfl,k,true,np,nt,rfl,⟨_,hx H (Same.refl H)⟩,⟨_,SqT.of hn⟩,?_⟩;refine a2I (caps:=[]) V.int V.str (xs:=xs) (ys:=ns) (λx _=>decide (x > 0)) (λx n=>V.str (Str.join bk (tmW x n))) (by omega) (λH' s=>⟨hx H' s,SqT.of (s _ _ hn)⟩) rfl (λx y H1 Q1 _ _ s1 q=>⟨_,rfl,_,_,rfl,rfl,_,rfl,q⟩) (λx y H1 Q1 hx1 hy1 ht s1 q=>⟨_,rfl,_,rfl,x,y,rfl,of_decide_eq_true ht,(hb x hx1).2,((hnm.nm y hy1).wg).1,q _ (Same.refl _)⟩) λH1 p s1 hp=>?_;dsimp only[A9];have hT:(((xs.zip ns).filter λq=>decide (q.1 > 0)).map λq=>V.str (Str.join bk (tmW q.1 q.2)))=((((xs.zip ns).filter λq=>decide (q.1 > 0)).map λq=>tmW q.1 q.2).map (Str.join bk)).map V.str:=by simp only[List.map_map];rfl
  rw[hT];have s2:=s1.upd (o:=.lst (((((xs.zip ns).filter λq=>decide (q.1 > 0)).map λq=>tmW q.1 q.2).map (Str.join bk)).map V.str)) hp;have e2:upd H1 p (.lst (((((xs.zip ns).filter λq=>decide (q.1 > 0)).map λq=>tmW q.1 q.2).map (Str.join bk)).map V.str)) p=some (.lst (((((xs.zip ns).filter λq=>decide (q.1 > 0)).map λq=>tmW q.1 q.2).map (Str.join bk)).map V.str)):=A0;have f2:H p=none:=s1.free hp;generalize upd H1 p (.lst (((((xs.zip ns).filter λq=>decide (q.1 > 0)).map λq=>tmW q.1 q.2).map (Str.join bk)).map V.str))=H2 at s2 e2;refine S2 (λσ H'=>σ=[some (.ref nt),some (.ref np),some (.int a),some (.ref p)]/\H' p=some (.lst (((J6 ns xs a).map (Str.join bk)).map V.str))/\Same H H') ?fin λfin=>?_
  case fin =>
   rintro σ H3 ⟨rfl,e3,s3⟩;refine⟨_,rfl,p,_,rfl,.inl (SqL.of e3),_,_,rfl,rfl,_,rfl,C9 (λe=>?_) (λe=>?_)⟩
   .have e:=of_decide_eq_true e;have hne:J6 ns xs a≠[]:=λz=>by rw[z]at e;exact absurd e (by decide)
    have hbd:∀y∈(J6 ns xs a).map (Str.join bk),y.length<=42:=λy hy=>by obtain⟨t,ht,rfl⟩:=List.mem_map.mp hy;exact a2s (tw t ht).1 (tw t ht).2
    have hj:Str.join wplus ((J6 ns xs a).map (Str.join bk))=Str.join bk (B5 (J6 ns xs a)):=by
     rw[a0u λt ht=>by obtain⟨q,_,h⟩:=tm.all t ht;exact h.ne,B5,if_neg hne]
    have hjl:(Str.join bk (B5 (J6 ns xs a))).length<=1000:=by
     obtain⟨w1,w2,_⟩:=T4 tw;have:=K2 (c:=32) (B:=20) (ys:=B5 (J6 ns xs a)) λy hy=>(w1 y hy).1;exact Nat.le_trans this (Nat.le_trans (Nat.mul_le_mul (show _<=28 by omega) (Nat.le_refl 21)) (by decide))
    refine⟨rfl,_,rfl,wplus,p,_,42,rfl,rfl,SqL.of e3,hbd,?_,by rw[hj];omega,?_⟩
    .rw[List.length_map,show wplus.length=3 from rfl];omega
    .rw[hj];exact kk _ s3
   .have hne:J6 ns xs a=[]:=by
     cases hq:J6 ns xs a with
     |nil=>rfl
     |cons t r=>rw[hq]at e;exact absurd (decide_eq_true (by simp)) e
    have:=kk _ s3;rw[hne,B5,if_pos rfl]at this;exact this
  refine⟨_,rfl,_,_,rfl,rfl,_,rfl,C9 (λe=>?_) (λe=>?_)⟩
  .have e:0<a:=of_decide_eq_true e;have hx:a=((a.toNat:Nat):Int):=by omega
   refine⟨_,rfl,.inl ⟨rfl,_,SqL.of e2⟩,_,rfl,a.toNat,by rw[<-hx],Nat.lt_of_le_of_lt (show a.toNat<=1000000000000 by unfold topN at ha;omega) (by decide +kernel),p,_,_,rfl,rfl,e2,?_,?_⟩
   .have:=List.length_filter_le (λq:Int×Str=>decide (q.1 > 0)) (xs.zip ns);have h2:(xs.zip ns).length<=xs.length:=by rw[List.length_zip];exact Nat.min_le_left _ _
    simp only[List.length_map];omega
   .refine fin _ _ ⟨rfl,?_,λb o hb=>?_⟩
    .rw[A0,J6,a0w,if_pos e,List.map_append,List.map_append];rfl
    .rw[A6 (A4 hb f2)];exact s2 _ _ hb
  .have e:¬0<a:=λz=>e (decide_eq_true z);refine fin _ _ ⟨rfl,?_,s2⟩;rw[e2,J6,a0w,if_neg e,List.append_nil]
def b0V(K:PySem.W.Frag):Sp:=λvs H Q _=>∃(nt np:Addr) (ns:List Str) (xs:List Int) (a:Int),vs=[.ref nt,.ref np,.int a]/\H nt=some (.tup (ns.map V.str))/\H np=some (.tup (xs.map V.int))/\Nms ns/\ns.length<=7/\xs.length=ns.length/\Bds xs /\ -topN<=a/\a<=topN/\∀H',Same H H'->Q (.str (Str.join bk (a1V ns xs a))) H'
theorem sc_show_row:FnScope ["names","row","side","left","right"] ["names","row","side"] (A3 S4):=⟨rfl,rfl,rfl,by decide +kernel,rfl,by decide +kernel,by decide +kernel⟩
theorem a0c{ns:List Str}{xs:List Int}{a:Int}(hnm:Nms ns)(hn7:ns.length<=7)(hl:xs.length=ns.length)(hb:Bds xs)(ha:a<=topN):(Str.join bk (B5 (J6 ns xs a))).length<=1000/\B5 (J6 ns xs a)≠[]/\(∀x∈B5 (J6 ns xs a),Wg x)/\(B5 (J6 ns xs a)).length<=30:=by
 have tm:=a0O hl hb ha;have tw:∀t∈J6 ns xs a,(∀x∈t,Wg x)/\t.length<=2:=λt ht=>by obtain⟨p,_,q⟩:=tm.all t ht;exact q.wg hnm
 have tl:=a3A ns xs a;obtain⟨w1,w2,w3⟩:=T4 tw;have:=K2 (c:=32) (B:=20) (ys:=B5 (J6 ns xs a)) λy hy=>(w1 y hy).1;exact⟨Nat.le_trans this (Nat.le_trans (Nat.mul_le_mul (show _<=28 by omega) (Nat.le_refl 21)) (by decide)),w3 λt ht=>by obtain⟨p,_,q⟩:=tm.all t ht;exact q.ne,w1,by omega⟩
theorem a3H{l r:List Str}(hl:l≠[])(hr:r≠[]):Str.ofString "sum " ++ Str.join bk l++Str.ofString " = " ++ Str.join bk r=Str.join bk (wd "sum" :: (l++wd "=" :: r)):=by
 rw[show wd "sum" :: (l++wd "=" :: r)=[wd "sum"]++(l++([wd "="]++r))from rfl,R8 (by simp) (by simp),R8 hl (by simp),R8 (by simp) hr];have e1:Str.ofString "sum "=wd "sum" ++ bk:=by with_unfolding_all rfl
 have e2:Str.ofString " = "=bk++(wd "=" ++ bk):=by with_unfolding_all rfl
 rw[e1,e2];show _=wd "sum" ++ bk++(Str.join bk l++bk++(wd "=" ++ bk++Str.join bk r));simp only[N5]
theorem a3O(F:FunAt K mg "show_row" S4 ["names","row","side"])(T:Tx mg)(O_show_terms:Ok P w K mg base "show_terms" 2 ["names","numbers","alone"] (a7m K)):Ok P w K mg base "show_row" 3 ["names","row","side"] (b0V K):=by
 refine F.okJ sc_show_row (λvs H Q E h=>?_) (λcdv f A outer s H vs Q E hr h=>?_)
 .obtain⟨nt,np,ns,xs,a,rfl,_⟩:=h;rfl
 .obtain⟨nt,np,ns,xs,a,rfl,hn,hx,hnm,hn7,hl,hb,h1,h2,kk⟩:=h;have hz:(100000:Nat)<=sizeLine:=by rw[sizeLine_eq];decide
  refine⟨_,(A1 (B3 (i:=3) sc_show_row.nd rfl (Or.inl rfl) (A7 O_show_terms (hr.mono (by omega)) rfl (jaC (jv 0) (jaC (jv 1) (jaC (Q3 (jv 2)) jaN)))))
 (A1 (B3 (i:=4) sc_show_row.nd rfl (Or.inl rfl) (A7 O_show_terms (hr.mono (by omega)) rfl (jaC (jv 0) (jaC (J2 (N:=["number"]) (src:=[none]) (X7 K (jv 1)) (by show D0 _ _=true;rfl) (by rfl) (by rfl)
 (λ_ _ _ _ _=>(A8 (i:=0) (show(["number"]:List Str).Nodup by decide +kernel) rfl (Or.inl rfl))) (λ_ _ _ _ _=>E7) (λ_ _ _ _ _=>(Q3 (jv 0)))) (jaC (jv 2) jaN)))))
 (A5 (B0 (a8B (N4 B2 (K3 (jv 3) (N4 B2 (K3 (jv 4) Z9))))))))),?_⟩
  have hb':Bds (xs.map λx => -x):=λy hy=>by
   obtain⟨x,hx,rfl⟩:=List.mem_map.mp hy;obtain⟨a,b⟩:=hb x hx;unfold topN at *;omega
  have ha' : -a<=topN:=by unfold topN at *;omega
  refine⟨_,rfl,_,rfl,_,rfl,_,rfl,nt,np,true,ns,xs,-a,rfl,hn,λH' s=>SqT.of (s _ _ hx),hnm,hn7,hl,hb,ha',λH1 s1=>?_⟩;dsimp only[A9];refine⟨_,rfl,_,rfl,np,rfl,⟨_,SqT.of (s1 _ _ hx)⟩,?_⟩;refine Y3 (vs:=xs.map V.int) (as:=xs) (caps:=[]) (λx=>V.int (-x)) (by rw[List.length_map];omega) (List.length_map ..) (λH' s=>SqT.of (s _ _ (s1 _ _ hx))) rfl (λi v x H2 Q2 hv hx1 s2 q=>?_) λH2 p2 s2 hp2=>?_
  .rw[List.getElem?_map,hx1]at hv;cases hv;exact⟨_,rfl,_,rfl,q _ (Same.refl _)⟩
  have s3:=s1.trans (s2.upd (o:=.lst (xs.map λx=>V.int (-x))) hp2);have e3:upd H2 p2 (.lst (xs.map λx=>V.int (-x))) p2=some (.lst ((xs.map λx => -x).map V.int)):=by rw[A0,List.map_map];rfl
  generalize upd H2 p2 (.lst (xs.map λx=>V.int (-x)))=H3 at s3 e3;refine⟨_,rfl,nt,p2,false,ns,xs.map λx => -x,a,rfl,s3 _ _ hn,λH' s=>SqL.of (s _ _ e3),hnm,hn7,by rw[List.length_map];exact hl,hb',h2,λH4 s4=>?_⟩;dsimp only[A9];obtain⟨l1,l2,_⟩:=a0c (a := -a) hnm hn7 hl hb ha';obtain⟨r1,r2,_⟩:=a0c (xs:=xs.map λx => -x) (a:=a) hnm hn7 (by rw[List.length_map];exact hl) hb' h2;have ht:=a3H l2 r2;have g1:(Str.ofString "sum " ++ Str.join bk (B5 (J6 ns xs (-a)))).length<=1004:=by rw[B7,show(Str.ofString "sum ").length=4 from rfl];omega
  have g2:(Str.ofString "sum " ++ Str.join bk (B5 (J6 ns xs (-a)))++Str.ofString " = ").length<=1007:=by rw[B7,show(Str.ofString " = ").length=3 from rfl];omega
  have g3:(Str.ofString "sum " ++ Str.join bk (B5 (J6 ns xs (-a)))++Str.ofString " = " ++ Str.join bk (B5 (J6 ns (xs.map λx => -x) a))).length<=2007:=by rw[B7];omega
  refine⟨_,rfl,?_⟩;rw[a0f];refine⟨by show 4<=sizeLine;omega,_,rfl,.inl ⟨_,rfl,by omega,by omega,_,rfl,by omega,_,rfl,.inl ⟨_,rfl,by omega,by omega,by omega,?_⟩⟩⟩;rw[ht];exact kk _ (s3.trans s4)
theorem a1q(w:Str):∀(ns:List Str) (cs:List (Option Int)),(((ns.zip cs).filter λq=>q.2.isSome).map λq=>V.str (Str.join bk [w,q.1,C2 (q.2.getD 0)]))=((G6 w ns cs).map (Str.join bk)).map V.str
 |[],_=>by simp[G6,D8]
 |n::ns,[]=>by simp[G6,D8]
 |n::ns,c::cs=>by
  have ih:=a1q w ns cs;unfold G6 at ih⊢;rw[List.zip_cons_cons,List.filter_cons,a0o];cases c with
  |none=>exact ih
  |some x =>
   rw[if_pos (show(n,some x).snd.isSome=true from rfl),List.map_cons,ih];rfl
def b0W(K:PySem.W.Frag):Sp:=λvs H Q _=>∃(w:Str) (nt np:Addr) (k:Bool) (ns:List Str) (cs:List (Option Int)),vs=[.str w,.ref nt,.ref np]/\H nt=some (.tup (ns.map V.str))/\(∀H',Same H H'->SqK k K H' np (cs.map ovI))/\w.length<=20/\ns.length<=7/\(∀n∈ns,n.length<=20)/\(∀x,some x∈cs->0<=x/\x<=topN)/\∀p H',H' p=some (.lst (((G6 w ns cs).map (Str.join bk)).map V.str))->H p=none->Same H H'->Q (.ref p) H'
theorem a0F:FnScope ["word","names","numbers"] ["word","names","numbers"] (A3 J8):=⟨rfl,rfl,rfl,by decide +kernel,rfl,by decide +kernel,by decide +kernel⟩
theorem a0H(F:FunAt K mg "show_numbers" J8 ["word","names","numbers"])(T:Tx mg):Ok P w K mg base "show_numbers" 1 ["word","names","numbers"] (b0W K):=by
 refine F.okJ a0F (λvs H Q E h=>?_) (λcdv f A outer s H vs Q E hr h=>?_)
 .obtain⟨w,nt,np,k,ns,cs,rfl,_⟩:=h;rfl
 .obtain⟨w1,nt,np,k,ns,cs,rfl,hn,hx,hw,hn7,hnl,hb,kk⟩:=h;have hz:(100000:Nat)<=sizeLine:=by rw[sizeLine_eq];decide
  refine⟨_,(A5 (B0 (J2 (N:=["name","number","word"]) (src:=[none,none,some 0]) (T3 K rfl T.b_zip (jaC (jv 1) (jaC (jv 2) jaN))) (by show D0 _ _=true;rfl) (by rfl) (by rfl)
 (λ_ _ _ _ _=>(K4 K 2 (B1 (A8 (i:=0) (show(["name","number","word"]:List Str).Nodup by decide +kernel) rfl (Or.inl rfl)) (B1 (A8 (i:=1) (show(["name","number","word"]:List Str).Nodup by decide +kernel) rfl (Or.inl rfl)) E8)))) (λ_ _ _ _ _=>(a1v (a5y (jv 1) G9))) (λ_ _ _ _ _=>(a8B (K3 (jv 2) (N4 B2 (K3 (jv 0) (N4 B2 (K3 (jv 1) Z9)))))))))),?_⟩
  refine⟨_,rfl,_,rfl,true,k,nt,np,rfl,⟨_,SqT.of hn⟩,⟨_,hx H (Same.refl H)⟩,?_⟩;refine a2I (caps:=[some (.str w1)]) V.str ovI (xs:=ns) (ys:=cs) (λ_ o=>o.isSome) (λn o=>V.str (Str.join bk [w1,n,C2 (o.getD 0)])) (by omega) (λH' s=>⟨SqT.of (s _ _ hn),hx H' s⟩) rfl (λx y H1 Q1 _ _ s1 q=>?_) (λx y H1 Q1 hx1 hy1 ht s1 q=>?_) λH1 p s1 hp=>?_
  .refine⟨_,rfl,rfl,_,rfl,?_⟩;cases y with
   |none=>exact q
   |some z=>exact q
  .obtain⟨z,rfl⟩:=Option.isSome_iff_exists.mp ht;obtain⟨z0,z1⟩:=hb z hy1;have hz':z=((z.toNat:Nat):Int):=by omega
   have hf:=(T5 z1).1;have hxl:=hnl x hx1;have q0:=q _ (Same.refl _);have l1:(w1++bk).length<=21:=by rw[B7,show bk.length=1 from rfl];omega
   have l2:(w1++bk++x).length<=41:=by rw[B7];omega
   have l3:(w1++bk++x++bk).length<=42:=by rw[B7,show bk.length=1 from rfl];omega
   have l4:(w1++bk++x++bk++C6 z.toNat).length<=62:=by rw[B7];show _+(C2 z).length<=_;omega
   refine⟨_,rfl,.inl ⟨_,rfl,by omega,?_⟩⟩;rw[a0f];refine⟨by omega,_,rfl,?_⟩;refine⟨show(w1++bk).length<=_ by omega,_,rfl,.inl ⟨_,rfl,by omega,show(w1++bk++x).length<=_ by omega,_,rfl,show(w1++bk++x++bk).length<=_ by omega,_,rfl,.inr ⟨z.toNat,?_,Nat.lt_of_le_of_lt (show z.toNat<=1000000000000 by unfold topN at z1;omega) (by decide +kernel),show(w1++bk++x++bk++C6 z.toNat).length<=_ by omega,show(w1++bk++x++bk++C6 z.toNat).length<=_ by omega,?_⟩⟩⟩
   .show V.int z=_;rw[<-hz']
   .have e:Str.join bk [w1,x,C2 ((some z).getD 0)]=w1++bk++x++bk++C6 z.toNat:=by
     show w1++bk++(x++bk++C2 z)=_;simp only[N5];rfl
    rw[e]at q0;exact q0
  .rw[a1q];exact kk p _ A0 (s1.free hp) (s1.upd hp)
def b0U:Sp:=λvs H Q _=>∃(v:V) (ns:List Str) (rows:LLI) (sides:List Int) (caps:List (Option Int)) (prices:List Int),vs=[v]/\SysAt H v ns rows sides caps prices/\SysOk ns rows sides caps prices/\∀H',Same H H'->Q (.str (ptW (a0m ns rows sides caps prices))) H'
theorem sc_show_system:FnScope ["system","names","lines"] ["system"] (A3 K6):=⟨rfl,rfl,rfl,by decide +kernel,rfl,by decide +kernel,by decide +kernel⟩
theorem a2i{ns:List Str}{rows:LLI}{sides:List Int}{caps:List (Option Int)}{prices:List Int}(h:SysOk ns rows sides caps prices):(∀ws∈a0m ns rows sides caps prices,Wl ws)/\(a0m ns rows sides caps prices).length<=30:=by
 have hk:∀(cs:List (Option Int)),(D8 ns cs).length<=7:=λcs=>by
  have:=(D5 ns cs).length_le;rw[List.length_map]at this;have:=h.n7;omega
 have hnum:∀(w1:Str) (cs:List (Option Int)),Wg w1->(∀x,some x∈cs->0<=x/\x<=topN)->∀ws∈G6 w1 ns cs,Wl ws:=λw1 cs hw hc ws hws=>by
  obtain⟨q,hq,rfl⟩:=List.mem_map.mp hws;refine a2g (by simp) (by show 3<=400;decide) λx hx=>?_;simp only[List.mem_cons,List.not_mem_nil,or_false]at hx;rcases hx with rfl|rfl|rfl
  .exact hw
  .exact(h.nm.nm _ ((D5 ns cs).mem (List.mem_map.mpr ⟨q,hq,rfl⟩))).wg
  .exact T5 (a0n hc q hq).2
 have hp:∀x,some x∈prices.map prO->0<=x/\x<=topN:=λx hx=>by
  obtain⟨p,hp,e⟩:=List.mem_map.mp hx;unfold prO at e;split at e
  .cases e;exact h.pb _ hp
  .cases e
 refine⟨λws hws=>?_,?_⟩
 .rcases List.mem_cons.mp hws with rfl|z
  .refine a2g (by simp) (by rw[List.length_cons];have:=h.n7;omega) λx hx=>?_;rcases List.mem_cons.mp hx with rfl|z
   .exact wg_lit.1
   .exact(h.nm.nm x z).wg
  .rcases List.mem_append.mp z with z|z
   .obtain⟨i,hi⟩:=List.getElem?_of_mem z;rw[List.getElem?_zipWith]at hi;cases e1:rows[i]? with
    |none=>rw[e1]at hi;cases hi
    |some r =>
     cases e2:sides[i]? with
     |none=>rw[e1,e2]at hi;cases hi
     |some sd =>
      rw[e1,e2]at hi;cases hi;obtain⟨r1,r2⟩:=h.rw r (List.mem_of_getElem? e1);obtain⟨b1,b2⟩:=h.sb sd (List.mem_of_getElem? e2);have hb':Bds (r.map λx => -x):=λy hy=>by
       obtain⟨x,hx,rfl⟩:=List.mem_map.mp hy;obtain⟨a,b⟩:=r2 x hx;unfold topN at *;omega
      obtain⟨_,_,a3,a4⟩:=a0c (a := -sd) h.nm h.n7 r1 r2 (by unfold topN at *;omega);obtain⟨_,_,c3,c4⟩:=a0c (xs:=r.map λx => -x) (a:=sd) h.nm h.n7 (by rw[List.length_map];exact r1) hb' b2;refine a2g (by unfold a1V;simp) (by unfold a1V;rw[List.length_cons,List.length_append,List.length_cons];omega) λx hx=>?_;rcases List.mem_cons.mp hx with rfl|z
      .exact wg_lit.2.1
      .rcases List.mem_append.mp z with z|z
       .exact a3 x z
       .rcases List.mem_cons.mp z with rfl|z
        .exact wg_lit.2.2.2.2.2.1
        .exact c3 x z
   .rcases List.mem_append.mp z with z|z
    .exact hnum _ _ wg_lit.2.2.1 h.cb ws z
    .exact hnum _ _ wg_lit.2.2.2.1 hp ws z
 .unfold a0m G6;rw[List.length_cons,List.length_append,List.length_append,List.length_map,List.length_map,List.length_zipWith];have h1:=hk caps;have h2:=hk (prices.map prO);have h3:=h.rl;have:=Nat.min_le_left rows.length sides.length;omega
theorem a5t{ns:List Str}(h:ns≠[]):Str.ofString "of " ++ Str.join bk ns=Str.join bk (wd "of" :: ns):=by
 rw[show wd "of" :: ns=[wd "of"]++ns from rfl,R8 (by simp) h];have e1:Str.ofString "of "=wd "of" ++ bk:=by with_unfolding_all rfl
 rw[e1];rfl
theorem a1m(F:FunAt K mg "show_system" K6 ["system"])(T:Tx mg)(O_show_row:Ok P w K mg base "show_row" 3 ["names","row","side"] (b0V K))(O_show_numbers:Ok P w K mg base "show_numbers" 1 ["word","names","numbers"] (b0W K)):Ok P w K mg base "show_system" 4 ["system"] b0U:=by
 refine F.okJ sc_show_system (λvs H Q E h=>?_) (λcdv f A outer s H vs Q E hr h=>?_)
 .obtain⟨v,ns,rows,sides,caps,prices,rfl,_⟩:=h;rfl
 .obtain⟨v,ns,rows,sides,caps,prices,rfl,hS,hO,kk⟩:=h;have hz:(16777216:Nat)<=sizeLine:=by rw[sizeLine_eq];decide
  obtain⟨a,n,r,sd,c,pr,us,rfl,ha,hn,hr1,hI,hs1,hc1,hp1⟩:=hS.ex;have h0:ns≠[]:=λz=>by have:=hO.n1;rw[z]at this;exact absurd this (by decide)
  have hn7:=hO.n7;have hjn:(Str.join bk ns).length<=147:=by
   have:=K2 (c:=32) (B:=20) (ys:=ns) λy hy=>((hO.nm.nm y hy).wg).1;exact Nat.le_trans this (Nat.mul_le_mul hn7 (Nat.le_refl 21))
  refine⟨_,(A1 (B3 (i:=1) sc_show_system.nd rfl (Or.inr rfl) (a4g K (jv 0) A2))
 (A1 (B3 (i:=2) sc_show_system.nd rfl (Or.inl rfl) (C5 (jaC (O0 B2 (a4d K B2 (jaC (jv 1) jaN))) jaN)))
 (A1 (C4 (W1 K (jv 2) (jaC (J2 (N:=["row","side","names"]) (src:=[none,none,some 1]) (T3 K rfl T.b_zip (jaC (a4g K (jv 0) A2) (jaC (a4g K (jv 0) A2) jaN))) (by show D0 _ _=true;rfl) (by rfl) (by rfl)
 (λ_ _ _ _ _=>(K4 K 2 (B1 (A8 (i:=0) (show(["row","side","names"]:List Str).Nodup by decide +kernel) rfl (Or.inl rfl)) (B1 (A8 (i:=1) (show(["row","side","names"]:List Str).Nodup by decide +kernel) rfl (Or.inl rfl)) E8)))) (λ_ _ _ _ _=>E7) (λ_ _ _ _ _=>(A7 O_show_row (hr.mono (by omega)) rfl (jaC (jv 2) (jaC (jv 0) (jaC (jv 1) jaN)))))) jaN)))
 (A1 (C4 (W1 K (jv 2) (jaC (A7 O_show_numbers (hr.mono (by omega)) rfl (jaC B2 (jaC (jv 1) (jaC (a4g K (jv 0) A2) jaN)))) jaN)))
 (A1 (C4 (W1 K (jv 2) (jaC (A7 O_show_numbers (hr.mono (by omega)) rfl (jaC B2 (jaC (jv 1) (jaC (J2 (N:=["price"]) (src:=[none]) (X7 K (a4g K (jv 0) A2)) (by show D0 _ _=true;rfl) (by rfl) (by rfl)
 (λ_ _ _ _ _=>(A8 (i:=0) (show(["price"]:List Str).Nodup by decide +kernel) rfl (Or.inl rfl))) (λ_ _ _ _ _=>E7) (λ_ _ _ _ _=>(a4h (T7 (jv 0) A2) (jv 0) G9))) jaN)))) jaN)))
 (A5 (B0 (a0T K B2 (jaC (jv 2) jaN))))))))),?_⟩
  refine⟨_,rfl,a,_,0,_,rfl,rfl,SqT.of ha,rfl,?_⟩;dsimp only[A9];refine⟨rfl,_,rfl,bk,n,ns,20,rfl,rfl,SqT.of hn,λy hy=>((hO.nm.nm y hy).wg).1,by rw[show bk.length=1 from rfl];omega,by omega,_,_,rfl,rfl,by show 3+_<=_;omega,by show 1<=sizeLine;omega,λp hp=>?_⟩;rw[a5t h0];dsimp only[A9];have fp:H p=none:=hp;have s1:=(Same.refl H).upd (o:=.lst [V.str (Str.join bk (wd "of" :: ns))]) hp;have e1:upd H p (.lst [V.str (Str.join bk (wd "of" :: ns))]) p=some (.lst [V.str (Str.join bk (wd "of" :: ns))]):=A0;generalize upd H p (.lst [V.str (Str.join bk (wd "of" :: ns))])=H1 at s1 e1;refine⟨_,rfl,.inl ⟨rfl,_,SqL.of e1⟩,_,rfl,a,_,1,_,rfl,rfl,SqT.of (s1 _ _ ha),rfl,_,rfl,a,_,2,_,rfl,rfl,SqT.of (s1 _ _ ha),rfl,true,true,r,sd,rfl,⟨_,SqT.of (s1 _ _ hr1)⟩,⟨_,SqT.of (s1 _ _ hs1)⟩,?_⟩;have hrl:=hO.rl;refine V4 (K:=K) (k1:=true) (k2:=true) (a:=r) (b:=sd) (xs:=us) (zs:=sides.map V.int) (by rw[hI.1];omega) (λi zs H'=>Same H1 H'/\zs=(((List.zipWith (a1V ns) rows sides).take i).map (Str.join bk)).map V.str) ⟨Same.refl H1,by simp⟩
   (λi zs H' _ _ h=>⟨SqT.of (h.1 _ _ (s1 _ _ hr1)),SqT.of (h.1 _ _ (s1 _ _ hs1)),by rw[h.2,List.length_map,List.length_map];exact List.length_take_le _ _⟩) ?_ ?_
  .rintro i x z zs H' q hx hy ⟨s',rfl⟩ hq;obtain⟨row,hrow,hxi⟩:=hI.2 i x hx;obtain⟨sv,hsv,rfl⟩:=L7 hy;have s2:Same H1 (upd H' q (.tup [x,V.int sv])):=s'.upd hq;have s2':=s1.trans s2;obtain⟨b,rfl,hb⟩:=hxi;obtain⟨r1,r2⟩:=hO.rw row (List.mem_of_getElem? hrow);obtain⟨b1,b2⟩:=hO.sb sv (List.mem_of_getElem? hsv);refine⟨q,_,rfl,SqT.of A0,rfl,_,_,rfl,_,[],rfl,rfl,⟨rfl,λj v e=>?_⟩,?_⟩
   .match j,e with
    |0,e=>cases e
    |1,e=>cases e
    |j+2,e=>exact e
   .refine⟨_,rfl,_,rfl,_,rfl,n,b,ns,row,sv,rfl,s2' _ _ hn,s2' _ _ hb,hO.nm,hn7,r1,r2,b1,b2,λH3 s3=>⟨s2.trans s3,?_⟩⟩;rw[List.take_add_one,List.getElem?_zipWith,hrow,hsv,List.map_append,List.map_append];rfl
  rintro zs H' ⟨s',rfl⟩ q hq;rw[List.length_map,List.take_of_length_le (by rw[List.length_zipWith,hI.1];omega)];generalize hRW:List.zipWith (a1V ns) rows sides=RW;have hRWl:RW.length<=6:=by rw[<-hRW,List.length_zipWith];have:=Nat.min_le_left rows.length sides.length;omega
  have s2:=s'.upd (o:=.lst ((RW.map (Str.join bk)).map V.str)) hq;have e2:upd H' q (.lst ((RW.map (Str.join bk)).map V.str)) q=some (.lst ((RW.map (Str.join bk)).map V.str)):=A0;have e12:=s2 _ _ e1;have qp:q≠p:=A4 (s' _ _ e1) hq |>.symm;generalize upd H' q (.lst ((RW.map (Str.join bk)).map V.str))=H2 at s2 e2 e12;have hk:∀(cs:List (Option Int)),(D8 ns cs).length<=7:=λcs=>by
   have:=(D5 ns cs).length_le;rw[List.length_map]at this;omega
  refine⟨p,q,_,_,rfl,rfl,e12,e2,by show 1+_<=_;rw[List.length_map,List.length_map];omega,?_⟩;have up:∀{Hx:Hp}{o:HO},Same H Hx->Same H (upd Hx p o):=λsx b o hb=>by rw[A6 (A4 hb fp)];exact sx _ _ hb
  have s3:Same H (upd H2 p (.lst ([V.str (Str.join bk (wd "of" :: ns))]++(RW.map (Str.join bk)).map V.str))):=up (s1.trans s2);have e3:upd H2 p (.lst ([V.str (Str.join bk (wd "of" :: ns))]++(RW.map (Str.join bk)).map V.str)) p=some (.lst ([V.str (Str.join bk (wd "of" :: ns))]++(RW.map (Str.join bk)).map V.str)):=A0;generalize upd H2 p (.lst ([V.str (Str.join bk (wd "of" :: ns))]++(RW.map (Str.join bk)).map V.str))=H3 at s3 e3;refine⟨_,rfl,.inl ⟨rfl,_,SqL.of e3⟩,_,rfl,_,rfl,a,_,3,_,rfl,rfl,SqT.of (s3 _ _ ha),rfl,wd "cap",n,c,true,ns,caps,rfl,s3 _ _ hn,λH' s=>SqT.of (s _ _ (s3 _ _ hc1)),by decide,hn7,λy hy=>((hO.nm.nm y hy).wg).1,hO.cb,λp4 H4 e4 f4 s4=>?_⟩;have hk1:=hk caps;have hp4:p≠p4:=A4 e3 f4;refine⟨p,p4,_,_,rfl,rfl,s4 _ _ e3,e4,by unfold G6;simp only[List.length_append,List.length_map,List.length_singleton];omega,?_⟩;have s5:Same H (upd H4 p (.lst ([V.str (Str.join bk (wd "of" :: ns))]++(RW.map (Str.join bk)).map V.str++((G6 (wd "cap") ns caps).map (Str.join bk)).map V.str))):=up (s3.trans s4);have e5:upd H4 p (.lst ([V.str (Str.join bk (wd "of" :: ns))]++(RW.map (Str.join bk)).map V.str++((G6 (wd "cap") ns caps).map (Str.join bk)).map V.str)) p=some (.lst ([V.str (Str.join bk (wd "of" :: ns))]++(RW.map (Str.join bk)).map V.str++((G6 (wd "cap") ns caps).map (Str.join bk)).map V.str)):=A0;generalize upd H4 p (.lst ([V.str (Str.join bk (wd "of" :: ns))]++(RW.map (Str.join bk)).map V.str++((G6 (wd "cap") ns caps).map (Str.join bk)).map V.str))=H5 at s5 e5;refine⟨_,rfl,.inl ⟨rfl,_,SqL.of e5⟩,_,rfl,_,rfl,a,_,4,_,rfl,rfl,SqT.of (s5 _ _ ha),rfl,pr,rfl,⟨_,SqT.of (s5 _ _ hp1)⟩,?_⟩;refine Y3 (vs:=prices.map V.int) (as:=prices) (caps:=[]) (λx=>ovI (prO x)) (by rw[List.length_map];have:=hO.pl;omega) (List.length_map ..) (λH' s=>SqT.of (s _ _ (s5 _ _ hp1))) rfl (λi v x H6 Q6 hv hx1 s6 q=>?_) λH6 p6 s6 hp6=>?_
  .rw[List.getElem?_map,hx1]at hv;cases hv;have q0:=q _ (Same.refl _);refine⟨_,rfl,_,_,rfl,rfl,_,rfl,C9 (λe=>?_) (λe=>?_)⟩
   .rw[prO,if_pos (of_decide_eq_true e)]at q0;exact⟨_,rfl,q0⟩
   .rw[prO,if_neg λz=>e (decide_eq_true z)]at q0;exact q0
  have s7:=s5.trans (s6.upd (o:=.lst (prices.map λx=>ovI (prO x))) hp6);have e7:upd H6 p6 (.lst (prices.map λx=>ovI (prO x))) p6=some (.lst ((prices.map prO).map ovI)):=by rw[A0,List.map_map];rfl
  have e57:=(s6.upd (o:=.lst (prices.map λx=>ovI (prO x))) hp6) _ _ e5;generalize upd H6 p6 (.lst (prices.map λx=>ovI (prO x)))=H7 at s7 e7 e57;have hp':∀x,some x∈prices.map prO->0<=x/\x<=topN:=λx hx=>by
   obtain⟨p,hp,e⟩:=List.mem_map.mp hx;unfold prO at e;split at e
   .cases e;exact hO.pb _ hp
   .cases e
  refine⟨wd "price",n,p6,false,ns,prices.map prO,rfl,s7 _ _ hn,λH' s=>SqL.of (s _ _ e7),by decide,hn7,λy hy=>((hO.nm.nm y hy).wg).1,hp',λp8 H8 e8 f8 s8=>?_⟩;have hk2:=hk (prices.map prO);refine⟨p,p8,_,_,rfl,rfl,s8 _ _ e57,e8,by unfold G6;simp only[List.length_append,List.length_map,List.length_singleton];omega,?_⟩;have s9:Same H (upd H8 p (.lst ([V.str (Str.join bk (wd "of" :: ns))]++(RW.map (Str.join bk)).map V.str++((G6 (wd "cap") ns caps).map (Str.join bk)).map V.str++((G6 (wd "price") ns (prices.map prO)).map (Str.join bk)).map V.str))):=up (s7.trans s8);obtain⟨hw,hwl⟩:=a2i hO;have hlen:=a2U hw (by omega);have hls:[V.str (Str.join bk (wd "of" :: ns))]++(RW.map (Str.join bk)).map V.str++((G6 (wd "cap") ns caps).map (Str.join bk)).map V.str++((G6 (wd "price") ns (prices.map prO)).map (Str.join bk)).map V.str=(lnW (a0m ns rows sides caps prices)).map V.str:=by
   unfold lnW a0m;rw[hRW];simp only[List.map_cons,List.map_append,List.append_assoc,List.singleton_append,List.cons_append,List.nil_append]
  rw[hls]at s9⊢;refine⟨rfl,_,rfl,lf,p,lnW (a0m ns rows sides caps prices),10000,rfl,rfl,SqL.of A0,λy hy=>?_,?_,by show(ptW _).length<=_;omega,kk _ s9⟩
  .obtain⟨ws,hws,rfl⟩:=List.mem_map.mp hy;exact(hw ws hws).le
  .rw[show(lnW (a0m ns rows sides caps prices)).length=(a0m ns rows sides caps prices).length by simp[lnW],show lf.length=1 from rfl];omega
end
end K46
namespace L2
open PySem PySem.Spec PyProof.Rows
section
variable {prog:Program}{w:World}{A:Around}{I l S:Addr}{vs:List Value}{kw:List (Str×Value)}{R:Result->Shared->Prop}{h₀:Heap}{s:Shared}
end
section
variable {prog:Program}{w:World}{A:Around}{E:Value->Shared->Prop}{s:Shared}
end
section
variable {X:Cx}{e:Expr}{es:List Expr}{t:TA}{p pos:Pos}
end
end L2
namespace K46
open PySem PySem.Spec PyProof.Rows L2
def pk(b:Addr)(l t k:Int):List (Key×V):=[(.inr "own",.ref b),(.inr "left",.int l),(.inr "seed",.int t),(.inr "many",.int k)]
section
variable (b:Addr) (l t k z:Int)
theorem b2e:T8 (pk b l t k) (.inr (Str.ofString "own"))=some (.ref b):=by with_unfolding_all rfl
theorem a9F:T8 (pk b l t k) (.inr (Str.ofString "left"))=some (.int l):=by with_unfolding_all rfl
theorem a9C:T8 (pk b l t k) (.inr (Str.ofString "seed"))=some (.int t):=by with_unfolding_all rfl
theorem a9D:T8 (pk b l t k) (.inr (Str.ofString "many"))=some (.int k):=by with_unfolding_all rfl
theorem a7M:R0 (pk b l t k) (.inr (Str.ofString "left")) (.int z)=pk b z t k:=by with_unfolding_all rfl
theorem a7K:R0 (pk b l t k) (.inr (Str.ofString "seed")) (.int z)=pk b l z k:=by with_unfolding_all rfl
theorem a7L:R0 (pk b l t k) (.inr (Str.ofString "many")) (.int z)=pk b l t z:=by with_unfolding_all rfl
theorem a9E:a0p [] [(.inr (Str.ofString "own"),.ref b),(.inr (Str.ofString "left"),.int l),(.inr (Str.ofString "seed"),.int t),(.inr (Str.ofString "many"),.int k)]=pk b l t k:=by with_unfolding_all rfl
end
structure PotAt(H:Hp)(a b:Addr):Prop where
 ne:a≠b
 ex:∃(cs:List Int) (l t k:Int),H a=some (.dK (pk b l t k))/\H b=some (.lst (cs.map V.int))
theorem PotAt.same{H H':Hp}{a b:Addr}(h:PotAt H a b)(s:Same H H'):PotAt H' a b:=by
 obtain⟨ne,cs,l,t,k,h1,h2⟩:=h;exact⟨ne,cs,l,t,k,s _ _ h1,s _ _ h2⟩
theorem C7{H:Hp}{a b:Addr}(h:PotAt H a b){c:Addr}{xs:List V}(hc:H c=some (.tup xs)):c∉[a,b]:=by
 obtain⟨_,cs,l,t,k,h1,h2⟩:=h;simp only[List.mem_cons,List.not_mem_nil,or_false,not_or];exact⟨a0B hc h1 (by intro z;cases z),a0B hc h2 (by intro z;cases z)⟩
theorem C1{H:Hp}{a b:Addr}(h:PotAt H a b){c:Addr}(hc:H c=none):c∉[a,b]:=by
 obtain⟨_,cs,l,t,k,h1,h2⟩:=h;simp only[List.mem_cons,List.not_mem_nil,or_false,not_or];exact⟨(A4 h1 hc).symm,(A4 h2 hc).symm⟩
theorem J0{H:Hp}{a b:Addr}(h:PotAt H a b){c:Addr}{o:HO}(hc:c∉[a,b]):PotAt (upd H c o) a b:=by
 simp only[List.mem_cons,List.not_mem_nil,or_false,not_or]at hc;obtain⟨ne,cs,l,t,k,e1,e2⟩:=h;exact⟨ne,cs,l,t,k,by rw[A6 (Ne.symm hc.1)];exact e1,by rw[A6 (Ne.symm hc.2)];exact e2⟩
theorem IT.pot{H H':Hp}{v:V}{ns:List Int}{a b:Addr}(h:IT H v ns)(hP:PotAt H a b)(o:Off [a,b] H H'):IT H' v ns:=by
 obtain⟨c,e,q⟩:=h;exact⟨c,e,o c _ (C7 hP q) q⟩
theorem Its.pot{H H':Hp}{vs:List V}{rss:LLI}{a b:Addr}(h:Its H vs rss)(hP:PotAt H a b)(o:Off [a,b] H H'):Its H' vs rss:=⟨h.1,λi v e=>let ⟨r,e1,e2⟩:=h.2 i v e;⟨r,e1,IT.pot e2 hP o⟩⟩
theorem U5{l:List Addr}{H H':Hp}{p:Addr}{o:HO}(s:Off l H H')(hp:H p=none):Off l H (upd H' p o):=λb u hb e=>by
 rw[A6 (A4 e hp)];exact s b u hb e
theorem R7{H H':Hp}{a b:Addr}{p:Addr}(o:Off [a,b] H H')(hP:PotAt H' a b)(hp:H' p=none):H p=none:=by
 rcases e:H p with _|u
 .rfl
 .have:=o _ _ (C1 hP hp) e;rw[hp]at this;cases this
section
variable {P:Program}{w:World}{K:PySem.W.Frag}{mg:Str->Option Value}{base:Heap}
def b1b(K:PySem.W.Frag):Sp:=λvs H Q _=>∃(a:Addr) (ns:List Int),vs=[.ref a]/\SqL K H a (ns.map V.int)/\ns.length<=1000/\∀p b H',H p=none->H b=none->PotAt H' p b->Same H H'->Q (.ref p) H'
theorem sc__law_pot:FnScope ["_law_script","_law_seed","_law_own","_law_cell"] ["_law_script"] (A3 S8):=⟨rfl,rfl,rfl,by decide +kernel,rfl,by decide +kernel,by decide +kernel⟩
theorem b2M(F:FunAt K mg "_law_pot" S8 ["_law_script"])(T:Tx mg):Ok P w K mg base "_law_pot" 1 ["_law_script"] (b1b K):=by
 refine F.okJ sc__law_pot (λvs H Q E h=>?_) (λcdv f A outer s H vs Q E hr h=>?_)
 .obtain⟨a,ns,rfl,_⟩:=h;rfl
 .obtain⟨a,ns,rfl,hS,hl,k⟩:=h;have hz:(3000:Nat)<=sizeLine:=by rw[sizeLine_eq];decide
  refine⟨_,(A1 (B3 (i:=1) sc__law_pot.nd rfl (Or.inl rfl) A2)
 (A1 (B3 (i:=2) sc__law_pot.nd rfl (Or.inl rfl) (C5 jaN))
 (A1 (R3 (N3 K (jv 0)) (A8 (i:=3) sc__law_pot.nd rfl (Or.inl rfl))
 (A1 (B3 (i:=1) sc__law_pot.nd rfl (Or.inl rfl) (a0a (O1 (O1 (a1x (jv 1) A2) (a0a (jv 3) A2)) A2) A2))
 (A5 (C0 (b4I (jv 3) (a8A A2 A2))
 (A5 (C4 (C8 K (jv 2) (jaC (jv 3) jaN))))
 B6))))
 (A5 (B0 (b3f (a0S B2 (jv 2) (a0S B2 A2 (a0S B2 (jv 1) (a0S B2 A2 b2Z)))))))))),?_⟩
  refine⟨Nat.zero_le _,λb hb=>?_⟩;have s0:=(Same.refl H).upd (o:=.lst []) hb;dsimp only[A9];refine⟨_,rfl,a,rfl,⟨_,s0.seq hS⟩,?_⟩;refine a1D (K:=K) (a:=a) (xs:=ns.map V.int) (λi σ H2=>∃(t:Int) (cs:List Int) (v:Option V),σ=[some (.ref a),some (.int t),some (.ref b),v]/\cs.length<=i/\H2=upd H b (.lst (cs.map V.int))) ⟨17,[],none,rfl,Nat.le_refl _,rfl⟩
   (λi σ H2 _ ⟨_,_,_,_,_,e⟩=>by rw[e];exact((Same.refl H).upd hb).seq hS) ?_ ?_
  .rintro i x σ H2 hx ⟨t,cs,v,rfl,hcs,rfl⟩;have hi:i<ns.length:=by have:=(List.getElem?_eq_some_iff.mp hx).1;simpa using this
   obtain⟨z,_,rfl⟩:=a3m hx;dsimp only[A9];refine⟨_,rfl,_,_,rfl,rfl,.inr ⟨by decide,by decide⟩,_,rfl,_,_,rfl,rfl,(show(0:Int)<2147483587 by decide),_,_,rfl,rfl,_,_,rfl,rfl,_,_,rfl,rfl,(show(0:Int)<2305843009213693951 by decide),?_⟩;dsimp only[A9];refine⟨_,rfl,_,_,rfl,rfl,⟨by decide,by decide,by decide⟩,_,_,rfl,rfl,_,rfl,C9 (λe=>?_) (λe=>?_)⟩
   .refine⟨_,rfl,.inl ⟨rfl,_,SqL.of A0⟩,_,rfl,b,_,_,rfl,rfl,A0,by rw[List.length_map];omega,?_⟩;exact⟨_,cs++[z],_,rfl,by rw[List.length_append];simpa using hcs,by rw[a5g,List.map_append];rfl⟩
   .exact⟨_,cs,_,rfl,by omega,rfl⟩
  .rintro σ H2 ⟨t,cs,v,rfl,hcs,rfl⟩;refine λp hp=>⟨_,rfl,_,rfl,A0,[(.inr (Str.ofString "own"),.ref b),(.inr (Str.ofString "left"),.int 0),(.inr (Str.ofString "seed"),.int t),(.inr (Str.ofString "many"),.int 0)],rfl,by show 4<=15;decide,?_⟩;rw[a9E,a5g];have pb:b≠p:=A4 (o:=.lst (cs.map V.int)) A0 hp;have s1:=(Same.refl H).upd (o:=.lst (cs.map V.int)) hb;exact k p b _ (s1.free hp) hb ⟨pb.symm,cs,0,t,0,A0,by rw[A6 pb];exact A0⟩ (s1.upd hp)
def Q8:Sp:=λvs H Q _=>∃(a b:Addr) (m:Int),vs=[.ref a,.int m]/\PotAt H a b/\0<m/\m<10 ^ 100/\∀r H',0<=r->r<m->PotAt H' a b->Off [a,b] H H'->Q (.int r) H'
theorem sc__law_next:FnScope ["_law_pot_here","_law_many","_law_drawn_here","_law_mixed"] ["_law_pot_here","_law_many"] (A3 O7):=⟨rfl,rfl,rfl,by decide +kernel,rfl,by decide +kernel,by decide +kernel⟩
theorem b0d(F:FunAt K mg "_law_next" O7 ["_law_pot_here","_law_many"])(T:Tx mg):Ok P w K mg base "_law_next" 1 ["_law_pot_here","_law_many"] Q8:=by
 refine F.okJ sc__law_next (λvs H Q E h=>?_) (λcdv f A outer s H vs Q E hr h=>?_)
 .obtain⟨a,b,m,rfl,_⟩:=h;rfl
 .obtain⟨a,b,m,rfl,⟨ne,cs,l,t,k,ha,hb⟩,hm0,hm1,kk⟩:=h;have hu:=hr.u60;have hz:(3000:Nat)<=sizeLine:=by rw[sizeLine_eq];decide
  refine⟨_,(A1 (C0 (Z6 (a3e (N9 (R4 hu (jv 0) B2) A2) (a0R (a1u K hu (R4 hu (jv 0) B2) (C5 jaN)))))
 (A5 (Z7 hu (jv 0) B2 (Z8 K (R4 hu (jv 0) B2) (jaC A2 jaN))))
 B6)
 (A1 (C0 (T7 (R4 hu (jv 0) B2) A2)
 (A1 (B3 (i:=2) sc__law_next.nd rfl (Or.inl rfl) (a0a (R4 hu (jv 0) B2) (jv 1)))
 (A1 (Z7 hu (jv 0) B2 (b0s (R4 hu (jv 0) B2) (jv 1)))
 (A5 (B0 (jv 2)))))
 B6)
 (A1 (Z7 hu (jv 0) B2 (O1 (R4 hu (jv 0) B2) A2))
 (A1 (B3 (i:=3) sc__law_next.nd rfl (Or.inl rfl) (a0a (a1x (O1 (R4 hu (jv 0) B2) (a1x (R4 hu (jv 0) B2) A2)) A2) A2))
 (A1 (Z7 hu (jv 0) B2 (a0a (a1x (jv 3) (O1 (a0a (jv 3) A2) A2)) A2))
 (A5 (B0 (a0a (b3e (R4 hu (jv 0) B2) A2) (jv 1))))))))),?_⟩
  have gL:∀{H:Hp}{b:Addr}{l t k:Int},H a=some (.dK (pk b l t k))->DGet H a (.str (Str.ofString "left")) (some (.int l)):=λ{_ b l t k} e=>by rw[<-a9F b l t k];exact DGet.k (k:=.inr (Str.ofString "left")) e
  have gO:∀{H:Hp}{b:Addr}{l t k:Int},H a=some (.dK (pk b l t k))->DGet H a (.str (Str.ofString "own")) (some (.ref b)):=λ{_ b l t k} e=>by rw[<-b2e b l t k];exact DGet.k (k:=.inr (Str.ofString "own")) e
  have gS:∀{H:Hp}{b:Addr}{l t k:Int},H a=some (.dK (pk b l t k))->DGet H a (.str (Str.ofString "seed")) (some (.int t)):=λ{_ b l t k} e=>by rw[<-a9C b l t k];exact DGet.k (k:=.inr (Str.ofString "seed")) e
  have gM:∀{H:Hp}{b:Addr}{l t k:Int},H a=some (.dK (pk b l t k))->DGet H a (.str (Str.ofString "many")) (some (.int k)):=λ{_ b l t k} e=>by rw[<-a9D b l t k];exact DGet.k (k:=.inr (Str.ofString "many")) e
  have pL:∀{H:Hp}{b:Addr}{l t k z:Int},H a=some (.dK (pk b l t k))->DPut H a (.str (Str.ofString "left")) (.int z) (upd H a (.dK (pk b z t k))):=λ{_ b l t k z} e=>by rw[<-a7M b l t k z];exact DPut.k (k:=.inr (Str.ofString "left")) e (by show 4<sizeLine;omega)
  have pS:∀{H:Hp}{b:Addr}{l t k z:Int},H a=some (.dK (pk b l t k))->DPut H a (.str (Str.ofString "seed")) (.int z) (upd H a (.dK (pk b l z k))):=λ{_ b l t k z} e=>by rw[<-a7K b l t k z];exact DPut.k (k:=.inr (Str.ofString "seed")) e (by show 4<sizeLine;omega)
  have pM:∀{H:Hp}{b:Addr}{l t k z:Int},H a=some (.dK (pk b l t k))->DPut H a (.str (Str.ofString "many")) (.int z) (upd H a (.dK (pk b l t z))):=λ{_ b l t k z} e=>by rw[<-a7L b l t k z];exact DPut.k (k:=.inr (Str.ofString "many")) e (by show 4<sizeLine;omega)
  refine S2 (λσ H'=>σ=[some (.ref a),some (.int m),none,none]/\Off [a,b] H H'/\∃(cs:List Int) (l:Int),H' a=some (.dK (pk b l t k))/\H' b=some (.lst (cs.map V.int))) ?fin λfin=>?_
  case fin =>
   clear ha hb;rintro σ H1 ⟨rfl,off1,cs,l,ha,hb⟩;refine⟨_,rfl,a,_,rfl,gL ha,_,_,rfl,rfl,_,rfl,C9 (λe=>?_) (λe=>?_)⟩
   .refine⟨_,rfl,a,_,rfl,gL ha,_,rfl,_,_,rfl,rfl,hm0,?_⟩;dsimp only[A9];refine⟨_,rfl,a,_,rfl,gL ha,_,rfl,_,_,rfl,rfl,⟨hm0,hm1⟩,_,rfl,a,_,rfl,pL ha,?_⟩;refine⟨_,rfl,kk _ _ (Int.emod_nonneg _ (by omega)) (Int.emod_lt_of_pos _ hm0) ⟨ne,cs,_,_,_,A0,by rw[A6 ne.symm];exact hb⟩ (off1.set (by simp))⟩
   .refine⟨_,rfl,a,_,rfl,gM ha,_,_,rfl,rfl,_,rfl,a,_,rfl,pM ha,?_⟩;have hb1:upd H1 a (.dK (pk b l t (k+1))) b=some (.lst (cs.map V.int)):=by rw[A6 ne.symm];exact hb
    have ha1:upd H1 a (.dK (pk b l t (k+1))) a=some (.dK (pk b l t (k+1))):=A0;have off2:Off [a,b] H (upd H1 a (.dK (pk b l t (k+1)))):=off1.set (by simp);generalize upd H1 a (.dK (pk b l t (k+1)))=H2 at ha1 hb1 off2;refine⟨_,rfl,a,_,rfl,gS ha1,_,rfl,a,_,rfl,gM ha1,_,_,rfl,rfl,.inr ⟨by decide,by decide⟩,_,_,rfl,rfl,_,_,rfl,rfl,.inr ⟨by decide,by decide⟩,_,_,rfl,rfl,(show(0:Int)<2305843009213693951 by decide),?_⟩;generalize hx:(t+(k+1)*104729)*48271 % 2305843009213693951=x;have x0:0<=x:=by rw[<-hx];exact Int.emod_nonneg _ (by decide)
    have x1:x<2305843009213693951:=by rw[<-hx];exact Int.emod_lt_of_pos _ (by decide)
    dsimp only[A9];refine⟨_,rfl,_,rfl,_,_,rfl,rfl,(show(0:Int)<1009 by decide),_,_,rfl,rfl,_,_,rfl,rfl,.inl ⟨by omega,by omega⟩,_,_,rfl,rfl,(show(0:Int)<2305843009213693951 by decide),_,rfl,a,_,rfl,pS ha1,?_⟩;refine⟨_,rfl,a,_,rfl,gS A0,_,_,rfl,rfl,⟨by decide,by decide⟩,_,rfl,_,_,rfl,rfl,hm0,?_⟩;exact kk _ _ (Int.emod_nonneg _ (by omega)) (Int.emod_lt_of_pos _ hm0) ⟨ne,cs,_,_,_,A0,by rw[A6 ne.symm];exact hb1⟩ (off2.set (by simp))
  refine⟨_,rfl,a,_,rfl,gL ha,rfl,_,rfl,C9 (λe=>?_) (λe=>L6 (fin _ _ ⟨rfl,Off.refl _ _,cs,l,ha,hb⟩))⟩;refine b3M (b:=b) (cs:=cs) (λQ' q=>⟨_,rfl,a,_,rfl,gO ha,q⟩) hb λp hp=>?_;have ha1:=G8 (o:=.lst []) ha hp;have hb1:=G8 (o:=.lst []) hb hp;have off1:Off [a,b] H (upd H p (.lst [])):=(Off.refl _ _).upd hp;generalize upd H p (.lst [])=H1 at ha1 hb1 off1;cases cs with
  |nil=>exact L6 (fin _ _ ⟨rfl,off1,[],l,ha1,hb1⟩)
  |cons c cs =>
   refine R5 ⟨_,rfl,a,_,rfl,gO ha1,.inl ⟨rfl,_,SqL.of hb1⟩,b,_,0,0,_,rfl,rfl,hb1,by decide,by decide,seqIndex_of (by decide) (by simp),rfl,?_⟩;have ha2:upd H1 b (.lst (((c::cs).map V.int).eraseIdx 0)) a=some (.dK (pk b l t k)):=by rw[A6 ne];exact ha1
   refine⟨_,rfl,a,_,rfl,pL ha2,fin _ _ ⟨rfl,(off1.set (by simp)).set (by simp),cs,c,A0,?_⟩⟩;rw[A6 ne.symm,A0];rfl
def a9j:Sp:=λvs H Q _=>∃(a b l:Addr) (xs:List V),vs=[.ref a,.ref l]/\PotAt H a b/\H l=some (.lst xs)/\l∉[a,b]/\0<xs.length/\xs.length<=1000/\∀r H',r∈xs->PotAt H' a b->Off [a,b] H H'->Q r H'
theorem a4G:FnScope ["_law_pot_here","_law_some"] ["_law_pot_here","_law_some"] (A3 V7):=⟨rfl,rfl,rfl,by decide +kernel,rfl,by decide +kernel,by decide +kernel⟩
theorem b4C(F:FunAt K mg "_law_of" V7 ["_law_pot_here","_law_some"])(T:Tx mg)(O__law_next:Ok P w K mg base "_law_next" 1 ["_law_pot_here","_law_many"] Q8):Ok P w K mg base "_law_of" 2 ["_law_pot_here","_law_some"] a9j:=by
 refine F.okJ a4G (λvs H Q E h=>?_) (λcdv f A outer s H vs Q E hr h=>?_)
 .obtain⟨a,b,l,xs,rfl,_⟩:=h;rfl
 .obtain⟨a,b,l,xs,rfl,hP,hl,hn,h0,h1,k⟩:=h;refine⟨_,(A5 (B0 (J5 K (jv 1) (A7 O__law_next (hr.mono (by omega)) rfl (jaC (jv 0) (jaC (G0 K rfl T.b_len (jaC (jv 1) jaN)) jaN)))))),?_⟩;have hm:((xs.length:Nat):Int)<10 ^ 100:=Int.lt_of_le_of_lt (show(xs.length:Int)<=1000 by omega) (by decide +kernel);refine⟨_,rfl,_,rfl,_,rfl,l,_,rfl,.inl (SqL.of hl),a,b,_,rfl,hP,by omega,hm,λr H1 r0 r1 hP1 off1=>?_⟩;obtain⟨j,rfl⟩:∃j:Nat,r=j:=⟨r.toNat,by omega⟩;have hj:j<xs.length:=by omega
  refine⟨l,_,_,_,rfl,rfl,SqL.of (off1 _ _ hn hl),L3 (j:=j) (List.getElem?_eq_getElem hj),k _ H1 (List.getElem_mem hj) hP1 off1⟩
end
theorem T9(c m:Nat):(X4 ⟨#[c]⟩ m).cps.toList=List.replicate m c:=by
 unfold X4;show(List.replicate m [c]).flatten.toArray.toList=_;rw[List.toList_toArray];induction m with
 |zero=>rfl
 |succ m ih=>rw[List.replicate_succ,List.flatten_cons,ih];rfl
theorem b1R{c m:Nat}(h1:97<=c)(h2:c<=122)(h3:1<=m)(h4:m<=8):isNm (X4 ⟨#[c]⟩ m):=by
 have hl:(X4 ⟨#[c]⟩ m).length=m:=by
  show(X4 ⟨#[c]⟩ m).cps.size=m;rw[<-Array.length_toList,T9,List.length_replicate]
 refine⟨by omega,by omega,λx hx=>?_⟩;rw[T9]at hx;rw[(List.mem_replicate.mp hx).2];exact⟨h1,h2⟩
theorem a9n{c d m k:Nat}(h:X4 ⟨#[c]⟩ m=X4 ⟨#[d]⟩ k)(hm:1<=m):c=d:=by
 have e:List.replicate m c=List.replicate k d:=by rw[<-T9,<-T9,h]
 have:c∈List.replicate k d:=by rw[<-e];exact List.mem_replicate.mpr ⟨by omega,rfl⟩
 exact(List.mem_replicate.mp this).2
theorem b1S{c m:Nat}{x:Str}{p q:Nat}(hp:p∈x.cps.toList)(hq:q∈x.cps.toList)(h:p≠q):X4 ⟨#[c]⟩ m≠x:=λz=>by
 rw[<-z,T9]at hp hq;exact h ((List.mem_replicate.mp hp).2.trans (List.mem_replicate.mp hq).2.symm)
def six:List Str:=[wd "sum",wd "cap",wd "price",wd "of",wd "least",wd "step"]
theorem b1N:∀x∈six,isNm x:=by
 have key:∀x:Str,1<=x.length/\x.length<=8->(x.cps.toList.all λc=>decide (97<=c/\c<=122))=true->isNm x:=λx h1 h2=>⟨h1.1,h1.2,λc hc=>of_decide_eq_true (List.all_eq_true.mp h2 c hc)⟩;intro x hx;unfold six at hx;simp only[List.mem_cons,List.not_mem_nil,or_false]at hx;rcases hx with rfl|rfl|rfl|rfl|rfl|rfl<;>exact key _ (by decide) (by with_unfolding_all rfl)
theorem a9l(c m:Nat):X4 ⟨#[c]⟩ m∉six:=by
 have key:∀x:Str,(∃p q,x.cps.toList[0]?=some p/\x.cps.toList[1]?=some q/\p≠q)->X4 ⟨#[c]⟩ m≠x:=λx ⟨p,q,h1,h2,h3⟩=>b1S (List.mem_of_getElem? h1) (List.mem_of_getElem? h2) h3;unfold six;simp only[List.mem_cons,List.not_mem_nil,or_false,not_or];refine⟨key _ ⟨115,117,?_,?_,by decide⟩,key _ ⟨99,97,?_,?_,by decide⟩,key _ ⟨112,114,?_,?_,by decide⟩,key _ ⟨111,102,?_,?_,by decide⟩,key _ ⟨108,101,?_,?_,by decide⟩,key _ ⟨115,116,?_,?_,by decide⟩⟩<;>with_unfolding_all rfl
theorem b1O:six.Nodup:=by decide
structure NmI(L R:List Str):Prop where
 nd:L.Nodup
 nm:∀x∈L,isNm x
 ap:∀x∈L,x∉R
 rd:R.Nodup
 rm:∀x∈R,isNm x
theorem X5{α:Type}{L:List α}{j:Nat}{x y:α}(h:y∈L.set j x):y∈L∨y=x:=by
 rcases List.mem_or_eq_of_mem_set h with z|z
 .exact .inl z
 .exact .inr z
theorem a6j{L:List Str}{j:Nat}{x:Str}(h:L.Nodup)(hx:x∉L):(L.set j x).Nodup:=by
 induction L generalizing j with
 |nil=>exact h
 |cons y r ih =>
  obtain⟨h1,h2⟩:=List.nodup_cons.mp h;cases j with
  |zero=>exact List.nodup_cons.mpr ⟨λz=>hx (List.mem_cons_of_mem _ z),h2⟩
  |succ j =>
   refine List.nodup_cons.mpr ⟨λz=>?_,ih h2 λz=>hx (List.mem_cons_of_mem _ z)⟩;rcases X5 z with z|z
   .exact h1 z
   .exact hx (by rw[z];exact List.mem_cons_self)
theorem a8l{R:List Str}{k:Nat}{x:Str}(h:R.Nodup)(hk:R[k]?=some x):x∉R.eraseIdx k:=by
 induction R generalizing k with
 |nil=>cases hk
 |cons y r ih =>
  obtain⟨h1,h2⟩:=List.nodup_cons.mp h;cases k with
  |zero=>cases hk;exact h1
  |succ k =>
   rw[List.eraseIdx_cons_succ];intro z;rcases List.mem_cons.mp z with z|z
   .rw[z]at hk;exact h1 (List.mem_of_getElem? hk)
   .exact ih h2 hk z
theorem NmI.step{L R:List Str}{k j:Nat}{x:Str}(h:NmI L R)(hk:R[k]?=some x):NmI (L.set j x) (R.eraseIdx k):=by
 have hx:x∈R:=List.mem_of_getElem? hk;refine⟨a6j h.nd λz=>h.ap x z hx,λy hy=>?_,λy hy=>?_,h.rd.sublist (List.eraseIdx_sublist ..),λy hy=>h.rm y ((List.eraseIdx_sublist ..).mem hy)⟩
 .rcases X5 hy with z|z
  .exact h.nm y z
  .rw[z];exact h.rm x hx
 .rcases X5 hy with z|z
  .exact λq=>h.ap y z ((List.eraseIdx_sublist ..).mem q)
  .rw[z];exact a8l h.rd hk
theorem a3o{α β:Type}(f:α->β):∀(R:List α) (j:Nat),(R.map f).eraseIdx j=(R.eraseIdx j).map f
 |[],_=>rfl
 |_::_,0=>rfl
 |x::r,j+1=>by rw[List.map_cons,List.eraseIdx_cons_succ,List.eraseIdx_cons_succ,List.map_cons,a3o f r j]
def nmF(f s g:Int)(k:Nat):Str:=X4 ⟨#[97+((f+s*k) % 26).toNat]⟩ (1+((k*3+g) % 8).toNat)
theorem a8m{f s g:Int}{m:Nat}(hf:0<=f/\f<26)(hs:s∈([1,3,5,7,9,11]:List Int))(hg:0<=g/\g<8)(hm:m<=7):NmI ((List.range m).map (nmF f s g)) six:=by
 have hl:∀k:Nat,97<=97+((f+s*k) % 26).toNat/\97+((f+s*k) % 26).toNat<=122:=λk=>by
  have:=Int.emod_lt_of_pos (f+s*k) (show(0:Int)<26 by decide);have:=Int.emod_nonneg (f+s*k) (show(26:Int)≠0 by decide);omega
 have hr:∀k:Nat,1+((k*3+g) % 8).toNat<=8:=λk=>by
  have:=Int.emod_lt_of_pos (k*3+g) (show(0:Int)<8 by decide);omega
 refine⟨?_,λx hx=>?_,λx hx=>?_,b1O,b1N⟩
 .rw[List.nodup_iff_pairwise_ne,List.pairwise_map];refine List.Pairwise.imp_of_mem (λ{i j} hi hj (hlt:i<j) e=>?_) (List.pairwise_lt_range (n:=m));rw[List.mem_range]at hi hj;have:=a9n e (by omega);have h1:=Int.emod_nonneg (f+s*i) (show(26:Int)≠0 by decide);have h2:=Int.emod_nonneg (f+s*j) (show(26:Int)≠0 by decide);simp only[List.mem_cons,List.not_mem_nil,or_false]at hs;rcases hs with rfl|rfl|rfl|rfl|rfl|rfl<;>omega
 .obtain⟨k,_,rfl⟩:=List.mem_map.mp hx;exact b1R (hl k).1 (hl k).2 (by omega) (hr k)
 .obtain⟨k,_,rfl⟩:=List.mem_map.mp hx;exact a9l _ _
theorem b2O:∀i:Nat,i<26->lts.cps.toList[i]?=some (97+i):=by
 have e:lts.cps.toList=[97,98,99,100,101,102,103,104,105,106,107,108,109,110,111,112,113,114,115,116,117,118,119,120,121,122]:=by with_unfolding_all rfl
 rw[e];decide
theorem two_at(x y:Int)(c:Bool):∃m:Int,atI [V.int x,.int y] (if c=true then 1 else 0)=some (.int m)/\(m=x∨m=y):=by
 cases c
 .exact⟨x,rfl,.inl rfl⟩
 .exact⟨y,rfl,.inr rfl⟩
section
variable {P:Program}{w:World}{K:PySem.W.Frag}{mg:Str->Option Value}{base:Heap}
def b1d:Sp:=λvs H Q _=>∃(a b:Addr),vs=[.ref a]/\PotAt H a b/\∀t ns H',H' t=some (.tup (ns.map V.str))->Nms ns->1<=ns.length->ns.length<=7->PotAt H' a b->Off [a,b] H H'->Q (.ref t) H'
theorem sc__law_names:FnScope ["_law_pot_here","_law_letters","_law_many","_law_first","_law_step","_law_longer","_law_names_here","_law_words","_law_k"] ["_law_pot_here"] (A3 M9):=⟨rfl,rfl,rfl,by decide +kernel,rfl,by decide +kernel,by decide +kernel⟩
theorem a8h(F:FunAt K mg "_law_names" M9 ["_law_pot_here"])(T:Tx mg)(O__law_next:Ok P w K mg base "_law_next" 1 ["_law_pot_here","_law_many"] Q8)(O__law_of:Ok P w K mg base "_law_of" 2 ["_law_pot_here","_law_some"] a9j):Ok P w K mg base "_law_names" 3 ["_law_pot_here"] b1d:=by
 refine F.okJ sc__law_names (λvs H Q E h=>?_) (λcdv f A outer s H vs Q E hr h=>?_)
 .obtain⟨a,b,rfl,_⟩:=h;rfl
 .obtain⟨a,b,rfl,hP,k⟩:=h;have hz:(100000:Nat)<=sizeLine:=by rw[sizeLine_eq];decide
  refine⟨_,(A1 (B3 (i:=1) sc__law_names.nd rfl (Or.inr rfl) B2)
 (A1 (B3 (i:=2) sc__law_names.nd rfl (Or.inl rfl) (O1 A2 (A7 O__law_next (hr.mono (by omega)) rfl (jaC (jv 0) (jaC (J5 K (C5 (jaC A2 (jaC A2 jaN))) (a3h rfl T.b_int (jaC (a1t (A7 O__law_next (hr.mono (by omega)) rfl (jaC (jv 0) (jaC A2 jaN))) A2) jaN))) jaN)))))
 (A1 (a3f (a4e (jaC (A7 O__law_next (hr.mono (by omega)) rfl (jaC (jv 0) (jaC A2 jaN))) (jaC (A7 O__law_of (hr.mono (by omega)) rfl (jaC (jv 0) (jaC (C5 (jaC A2 (jaC A2 (jaC A2 (jaC A2 (jaC A2 (jaC A2 jaN))))))) jaN))) (jaC (A7 O__law_next (hr.mono (by omega)) rfl (jaC (jv 0) (jaC A2 jaN))) jaN)))) (K4 K 3 (B1 (A8 (i:=3) sc__law_names.nd rfl (Or.inr rfl)) (B1 (A8 (i:=4) sc__law_names.nd rfl (Or.inr rfl)) (B1 (A8 (i:=5) sc__law_names.nd rfl (Or.inr rfl)) E8)))))
 (A1 (O9 (i:=6) sc__law_names.nd rfl (Or.inl rfl) (N:=["_law_k","_law_letters","_law_first","_law_step","_law_longer"]) (src:=[none,some 1,some 3,some 4,some 5]) (R9 rfl T.b_range (jaC (jv 2) jaN)) (by show D0 _ _=true;rfl) (by rfl) (by rfl)
 (λ_ _ _ _ _=>(A8 (i:=0) (show(["_law_k","_law_letters","_law_first","_law_step","_law_longer"]:List Str).Nodup by decide +kernel) rfl (Or.inl rfl))) (λ_ _ _ _ _=>E7) (λ_ _ _ _ _=>(b3d (b1t (jv 1) (a0a (O1 (jv 2) (a1x (jv 3) (jv 0))) A2)) (O1 A2 (a0a (O1 (a1x (jv 0) A2) (jv 4)) A2)))))
 (A1 (B3 (i:=7) sc__law_names.nd rfl (Or.inl rfl) (C5 (jaC B2 (jaC B2 (jaC B2 (jaC B2 (jaC B2 (jaC B2 jaN))))))))
 (A1 (C0 (N9 (A7 O__law_next (hr.mono (by omega)) rfl (jaC (jv 0) (jaC A2 jaN))) A2)
 (A5 (R3 (R9 rfl T.b_range (jaC (b3c rfl T.b_min (jaC (jv 2) (jaC (O1 A2 (A7 O__law_next (hr.mono (by omega)) rfl (jaC (jv 0) (jaC A2 jaN)))) jaN))) jaN)) (A8 (i:=8) sc__law_names.nd rfl (Or.inl rfl))
 (A5 (a3f (Z8 K (jv 7) (jaC (A7 O__law_next (hr.mono (by omega)) rfl (jaC (jv 0) (jaC (G0 K rfl T.b_len (jaC (jv 7) jaN)) jaN))) jaN)) (b3a (jv 6) (A7 O__law_next (hr.mono (by omega)) rfl (jaC (jv 0) (jaC (jv 2) jaN))))))))
 B6)
 (A5 (B0 (E3 K rfl T.b_tuple (jaC (jv 6) jaN)))))))))),?_⟩
  refine⟨_,rfl,by show 2<=sizeLine;omega,λp1 hp1=>?_⟩;have q1:p1∉[a,b]:=C1 hP hp1;have s1:=(Same.refl H).upd (o:=.lst [V.int 4,V.int 7]) hp1;have e1:upd H p1 (.lst [V.int 4,V.int 7]) p1=some (.lst [V.int 4,V.int 7]):=A0;have P1:=hP.same s1;have o1:Off [a,b] H (upd H p1 (.lst [V.int 4,V.int 7])):=s1.off;generalize upd H p1 (.lst [V.int 4,V.int 7])=H1 at s1 e1 P1 o1;refine⟨_,rfl,a,b,4,rfl,P1,by decide,by decide +kernel,λr2 H2 _ _ P2 f2=>⟨rfl,?_⟩⟩;obtain⟨mi,hm1,hm2⟩:=two_at 4 7 (decide (V.int r2=V.int 0));refine .inr ⟨_,rfl,p1,_,_,_,rfl,rfl,SqL.of (f2 _ _ q1 e1),hm1,a,b,mi,rfl,P2,by omega,Int.lt_of_le_of_lt (show mi<=7 by omega) (by decide +kernel),λr3 H3 h30 h31 P3 f3=>?_⟩;refine⟨_,_,rfl,rfl,?_⟩;dsimp only[A9];have o3:=(o1.trans f2).trans f3;obtain⟨m,hm⟩:∃m:Nat,1+r3=(m:Int):=⟨(1+r3).toNat,by omega⟩;have hm7:1<=m/\m<=7:=by omega
  rw[hm];clear f2 f3 P1 P2 s1 e1 h30 h31 hm hm1 hm2;refine⟨_,rfl,a,b,26,rfl,P3,by decide,by decide +kernel,λfi H4 g40 g41 P4 f4=>?_⟩;refine⟨_,rfl,by show 6<=sizeLine;omega,λp5 hp5=>?_⟩;have q5:p5∉[a,b]:=C1 P4 hp5;have s5:=(Same.refl H4).upd (o:=.lst [V.int 1,V.int 3,V.int 5,V.int 7,V.int 9,V.int 11]) hp5;have e5:upd H4 p5 (.lst [V.int 1,V.int 3,V.int 5,V.int 7,V.int 9,V.int 11]) p5=some (.lst [V.int 1,V.int 3,V.int 5,V.int 7,V.int 9,V.int 11]):=A0;have P5:=P4.same s5;have o5:=(o3.trans f4).trans s5.off;generalize upd H4 p5 (.lst [V.int 1,V.int 3,V.int 5,V.int 7,V.int 9,V.int 11])=H5 at e5 P5 o5;refine⟨a,b,p5,_,rfl,P5,e5,q5,by decide,by decide,λsv H6 hsv P6 f6=>?_⟩;obtain⟨st,hst,rfl⟩:∃st:Int,st∈([1,3,5,7,9,11]:List Int)/\sv=V.int st:=by
   obtain⟨x,hx,e⟩:=List.mem_map.mp (show sv∈([1,3,5,7,9,11]:List Int).map V.int from hsv);exact⟨x,hx,e.symm⟩
  refine⟨_,rfl,a,b,8,rfl,P6,by decide,by decide +kernel,λgi H7 g70 g71 P7 f7=>?_⟩;have o7:=(o5.trans f6).trans f7;refine⟨by show 3<=sizeLine;omega,λp8 hp8=>?_⟩;have s8:=(Same.refl H7).upd (o:=.tup [V.int fi,V.int st,V.int gi]) hp8;have e8:upd H7 p8 (.tup [V.int fi,V.int st,V.int gi]) p8=some (.tup [V.int fi,V.int st,V.int gi]):=A0;have P8:=P7.same s8;have o8:=o7.trans s8.off;generalize upd H7 p8 (.tup [V.int fi,V.int st,V.int gi])=H8 at e8 P8 o8;clear s8 hp8 o7 f7 P7 o5 f6 P6 s5 hp5 e5 P5 o3 f4 P4 P3 hsv;refine⟨p8,_,rfl,SqT.of e8,rfl,_,_,rfl,_,_,rfl,_,[],rfl,rfl,?_⟩;dsimp only[A9];refine⟨_,rfl,m,rfl,by omega,by omega,?_⟩;have hst11:0<=st/\st<=11:=by
   simp only[List.mem_cons,List.not_mem_nil,or_false]at hst;omega
  rw[Int.toNat_natCast];refine a4I (caps:=[some (.str lts),some (.int fi),some (.int st),some (.int gi)]) (λk=>V.str (nmF fi st gi k)) (by omega) rfl (λi H9 Q9 hi s9 q=>?_) λH9 p9 s9 hp9=>?_
  .have m1:=Int.emod_lt_of_pos (fi+st*i) (show(0:Int)<26 by decide);have m0:=Int.emod_nonneg (fi+st*i) (show(26:Int)≠0 by decide);have n1:=Int.emod_lt_of_pos ((i:Int)*3+gi) (show(0:Int)<8 by decide);have n0:=Int.emod_nonneg ((i:Int)*3+gi) (show(8:Int)≠0 by decide);have hat:atI lts.cps.toList ((fi+st*i) % 26)=some (97+((fi+st*i) % 26).toNat):=by
    have:=L3 (b2O ((fi+st*i) % 26).toNat (by omega));rw[show((((fi+st*i) % 26).toNat:Nat):Int)=(fi+st*i) % 26 by omega]at this;exact this
   refine⟨_,rfl,_,rfl,_,rfl,_,rfl,_,_,rfl,rfl,.inl ⟨by omega,by omega⟩,_,_,rfl,rfl,_,_,rfl,rfl,by show(0:Int)<26;decide,lts,_,_,rfl,rfl,by show 26<=sizeLine;omega,hat,?_⟩;refine⟨_,rfl,_,_,rfl,rfl,.inl ⟨by omega,by omega⟩,_,rfl,_,_,rfl,rfl,_,_,rfl,rfl,by show(0:Int)<8;decide,_,_,rfl,rfl,⟨#[97+((fi+st*i) % 26).toNat]⟩,1+(((i:Int)*3+gi) % 8).toNat,rfl,?_,by show 1<=10;decide,by omega,q⟩;show V.int (1+((i:Int)*3+gi) % 8)=V.int ((1+(((i:Int)*3+gi) % 8).toNat:Nat):Int);congr 1;omega
  have hI:=a8m ⟨g40,g41⟩ hst ⟨g70,g71⟩ hm7.2;have hL0:((List.range m).map λk=>V.str (nmF fi st gi k))=((List.range m).map (nmF fi st gi)).map V.str:=by rw[List.map_map];rfl
  rw[hL0];have hLl:((List.range m).map (nmF fi st gi)).length=m:=by simp
  generalize (List.range m).map (nmF fi st gi)=L0 at hI hLl;dsimp only[A9];have P9:=P8.same s9;have q9:p9∉[a,b]:=C1 P9 hp9;have f9:H p9=none:=R7 (o8.trans s9.off) P9 hp9;have s10:=s9.upd (o:=.lst (L0.map V.str)) hp9;have e10:upd H9 p9 (.lst (L0.map V.str)) p9=some (.lst (L0.map V.str)):=A0;have P10:=P8.same s10;have o10:=o8.trans s10.off;generalize upd H9 p9 (.lst (L0.map V.str))=H10 at e10 P10 o10;refine⟨by show 6<=sizeLine;omega,λp11 hp11=>?_⟩;have q11:p11∉[a,b]:=C1 P10 hp11;have f11:H p11=none:=R7 o10 P10 hp11;have s11:=(Same.refl H10).upd (o:=.lst (six.map V.str)) hp11;have n911:p9≠p11:=A4 e10 hp11;have e11:upd H10 p11 (.lst (six.map V.str)) p11=some (.lst (six.map V.str)):=A0;have e10':=s11 _ _ e10;have P11:=P10.same s11;have o11:=o10.trans s11.off;rw[show[V.str (Str.ofString "sum"),V.str (Str.ofString "cap"),V.str (Str.ofString "price"),V.str (Str.ofString "of"),V.str (Str.ofString "least"),V.str (Str.ofString "step")]=six.map V.str from rfl];dsimp only[A9];generalize upd H10 p11 (.lst (six.map V.str))=H11 at e11 e10' P11 o11;clear s11 s10 P10 o10 s9 P9 hp9 P8 o8 e8 e10 hp11;refine S2 (λσ H'=>∃o8 L R,σ=[some (.ref a),some (.str lts),some (.int m),some (.int fi),some (.int st),some (.int gi),some (.ref p9),some (.ref p11),o8]/\H' p9=some (.lst (L.map V.str))/\NmI L R/\L.length=m/\PotAt H' a b/\Off [a,b] H H') ?fin λfin=>?_
  case fin =>
   rintro σ H' ⟨o8,L,R,rfl,e,hN,hl,P',o'⟩;refine⟨_,rfl,p9,_,rfl,.inl ⟨SqL.of e,λt ht=>?_⟩⟩;exact k t L _ A0 ⟨hN.nd,hN.nm⟩ (by omega) (by omega) (P'.same ((Same.refl H').upd ht)) (o'.trans ((Same.refl H').upd ht).off)
  refine⟨_,rfl,a,b,2,rfl,P11,by decide,by decide +kernel,λr12 H12 _ _ P12 f12=>⟨rfl,_,rfl,C9 (λe=>?_) (λe=>?_)⟩⟩
  .refine⟨_,rfl,_,rfl,a,b,3,rfl,P12,by decide,by decide +kernel,λr13 H13 h130 h131 P13 f13=>?_⟩;have o13:=(o11.trans f12).trans f13;have e13:=f13 _ _ q9 (f12 _ _ q9 e10');have e14:=f13 _ _ q11 (f12 _ _ q11 e11);obtain⟨n,hn,hn3⟩:∃n:Nat,(if 1+r13<(m:Int)then 1+r13 else(m:Int))=(n:Int)/\n<=3:=⟨(if 1+r13<(m:Int)then 1+r13 else(m:Int)).toNat,by split<;>omega,by split<;>omega⟩;refine⟨_,_,rfl,rfl,_,_,rfl,n,by rw[hn],by omega,by omega,?_⟩;rw[Int.toNat_natCast];refine W2 (lo:=0) (n:=n) (λi σ H'=>∃o8 L R,σ=[some (.ref a),some (.str lts),some (.int m),some (.int fi),some (.int st),some (.int gi),some (.ref p9),some (.ref p11),o8]/\H' p9=some (.lst (L.map V.str))/\H' p11=some (.lst (R.map V.str))/\NmI L R/\L.length=m/\R.length+i=6/\PotAt H' a b/\Off [a,b] H H') ⟨_,L0,six,rfl,e13,e14,hI,hLl,rfl,P13,o13⟩ ?_ ?_
   .rintro i σ H' hi ⟨o8,L,R,rfl,c1,c2,hN,hl,hR,P',o'⟩;dsimp only[A9];have hm:((R.length:Nat):Int)<10 ^ 100:=Int.lt_of_le_of_lt (show(R.length:Int)<=1000 by omega) (by decide +kernel);refine⟨_,rfl,.inl ⟨rfl,_,SqL.of c2⟩,_,rfl,_,rfl,p11,_,rfl,.inl (SqL.of c2),a,b,_,rfl,P',by rw[List.length_map];omega,by rw[List.length_map];exact hm,λr1 H1 r10 r11 P1 f1=>?_⟩;rw[List.length_map]at r11;obtain⟨j,rfl⟩:∃j:Nat,r1=j:=⟨r1.toNat,by omega⟩;have hj:j<R.length:=by omega
    have d2:=f1 _ _ q11 c2;have hix:seqIndex? (j:Int) (R.map V.str).length=some j:=by
     rw[List.length_map];exact seqIndex_of (by omega) (by omega)
    refine⟨p11,_,_,j,V.str R[j],rfl,rfl,d2,by omega,by omega,hix,by rw[List.getElem?_map,List.getElem?_eq_getElem hj];rfl,?_⟩;have d1:=f1 _ _ q9 c1;have P2:=J0 (o:=.lst ((R.map V.str).eraseIdx j)) P1 q11;have o2:=U5 (p:=p11) (o:=.lst ((R.map V.str).eraseIdx j)) (o'.trans f1) f11;have d1':upd H1 p11 (.lst ((R.map V.str).eraseIdx j)) p9=some (.lst (L.map V.str)):=by rw[A6 n911];exact d1
    have d2':upd H1 p11 (.lst ((R.map V.str).eraseIdx j)) p11=some (.lst ((R.eraseIdx j).map V.str)):=by rw[A0,a3o]
    generalize upd H1 p11 (.lst ((R.map V.str).eraseIdx j))=H2 at P2 o2 d1' d2';refine⟨_,rfl,_,rfl,_,rfl,a,b,m,rfl,P2,by omega,Int.lt_of_le_of_lt (show(m:Int)<=7 by omega) (by decide +kernel),λr3 H3 r30 r31 P3 f3=>?_⟩;obtain⟨i2,rfl⟩:∃j:Nat,r3=j:=⟨r3.toNat,by omega⟩;have hi2:i2<L.length:=by omega
    have hixn:ixN (L.map V.str).length (i2:Int)=some i2:=by
     unfold ixN;rw[List.length_map,if_pos (by omega),if_pos (by omega)];simp
    refine⟨p9,_,_,i2,rfl,rfl,f3 _ _ q9 d1',hixn,?_⟩;refine⟨_,L.set i2 R[j],R.eraseIdx j,rfl,by rw[A0,List.map_set],by rw[A6 n911.symm];exact f3 _ _ q11 d2',hN.step (List.getElem?_eq_getElem hj),by rw[List.length_set];exact hl,by rw[List.length_eraseIdx,if_pos hj];omega,J0 P3 q9,U5 (o2.trans f3) f9⟩
   .rintro σ H' ⟨o8,L,R,rfl,c1,c2,hN,hl,hR,P',o'⟩;exact fin _ _ ⟨_,L,R,rfl,c1,hN,hl,P',o'⟩
  .exact fin _ _ ⟨_,L0,six,rfl,f12 _ _ q9 e10',hI,hLl,P12,o11.trans f12⟩
end
end K46
namespace K46
open PySem PySem.Spec PyProof.Rows L2
theorem Y0{α:Type}{f:α->V}{Pr:α->Prop}:∀{ys:List V},(∀y∈ys,∃x,y=f x/\Pr x)->∃zs:List α,ys=zs.map f/\zs.length=ys.length/\∀z∈zs,Pr z
 |[],_=>⟨[],rfl,rfl,λz hz=>(nomatch hz)⟩
 |y::ys,h=>by
  obtain⟨x,rfl,hx⟩:=h y List.mem_cons_self;obtain⟨zs,rfl,hl,hz⟩:=Y0 (ys:=ys) λu hu=>h u (List.mem_cons_of_mem _ hu);exact⟨x::zs,rfl,by simp,λz hz'=>by rcases List.mem_cons.mp hz' with rfl|q;exact hx;exact hz z q⟩
section
variable {P:Program}{w:World}{K:PySem.W.Frag}{mg:Str->Option Value}{base:Heap}
theorem a1H{src:List (Option Nat)}{σ caps:L2.St}{Q:VK}{H:Hp}{a b t:Addr}{xs:List V}{te:TE}(R:V->Prop)(hl:xs.length<=1000)(hsrc:B8 src σ=none::caps)(hP:PotAt H a b)(ht:H t=some (.tup xs))
  (hte:∀(v:V) (H':Hp) (N:VK),PotAt H' a b->(∀u H'',R u->PotAt H'' a b->Off [a,b] H' H''->N u H'')->te (some v::caps) H' N)
  (hd:∀H' p ys,ys.length=xs.length->(∀y∈ys,R y)->PotAt H' a b->Off [a,b] H H'->H' p=none->Q (.ref p) (upd H' p (.lst ys))):L9 src (A9 0) Y7 te σ Q (Itt K t) H:=by
 have hz:(1000:Nat)<=sizeLine:=by rw[sizeLine_eq];decide
 refine a4r (K:=K) (a:=t) (xs:=xs) (by omega) (λi ys H'=>ys.length=i/\(∀y∈ys,R y)/\PotAt H' a b/\Off [a,b] H H') ⟨rfl,λy hy=>(nomatch hy),hP,Off.refl _ _⟩ (λi ys H' _ h=>⟨SqT.of (h.2.2.2 _ _ (C7 hP ht) ht),by rw[h.1];exact Nat.le_refl _⟩) ?_ ?_
 .rintro i v ys H' hv ⟨h1,h2,P',o'⟩;show Sub _ ((B8 src σ).set 0 (some v))/\_;rw[hsrc];refine⟨Sub.one,hte v H' _ P' λu H'' hu P'' o''=>⟨by simp[h1],λy hy=>?_,P'',o'.trans o''⟩⟩;rcases List.mem_append.mp hy with z|z
  .exact h2 y z
  .rw[List.mem_singleton.mp z];exact hu
 .rintro ys H' ⟨h1,h2,P',o'⟩ p hp;exact hd H' p ys h1 h2 P' o' hp
theorem a8R{src:List (Option Nat)}{σ caps:L2.St}{Q:VK}{H:Hp}{a b t:Addr}{xs:List V}{te:TE}(R:V->Prop)(hl:xs.length<=1000)(hsrc:B8 src σ=none::caps)(hP:PotAt H a b)(ht:H t=some (.lst xs))(hn:t∉[a,b])
  (hte:∀(v:V) (H':Hp) (N:VK),PotAt H' a b->(∀u H'',R u->PotAt H'' a b->Off [a,b] H' H''->N u H'')->te (some v::caps) H' N)
  (hd:∀H' p ys,ys.length=xs.length->(∀y∈ys,R y)->PotAt H' a b->Off [a,b] H H'->H' p=none->Q (.ref p) (upd H' p (.lst ys))):L9 src (A9 0) Y7 te σ Q (Itl K t) H:=by
 have hz:(1000:Nat)<=sizeLine:=by rw[sizeLine_eq];decide
 refine W4 (K:=K) (a:=t) (xs:=xs) (by omega) (λi ys H'=>ys.length=i/\(∀y∈ys,R y)/\PotAt H' a b/\Off [a,b] H H') ⟨rfl,λy hy=>(nomatch hy),hP,Off.refl _ _⟩ (λi ys H' _ h=>⟨SqL.of (h.2.2.2 _ _ hn ht),by rw[h.1];exact Nat.le_refl _⟩) ?_ ?_
 .rintro i v ys H' hv ⟨h1,h2,P',o'⟩;show Sub _ ((B8 src σ).set 0 (some v))/\_;rw[hsrc];refine⟨Sub.one,hte v H' _ P' λu H'' hu P'' o''=>⟨by simp[h1],λy hy=>?_,P'',o'.trans o''⟩⟩;rcases List.mem_append.mp hy with z|z
  .exact h2 y z
  .rw[List.mem_singleton.mp z];exact hu
 .rintro ys H' ⟨h1,h2,P',o'⟩ p hp;exact hd H' p ys h1 h2 P' o' hp
def b4f:Sp:=λvs H Q _=>∃(a b:Addr),vs=[.ref a]/\PotAt H a b/\∀x H',-topN<=x->x<=topN->PotAt H' a b->Off [a,b] H H'->Q (.int x) H'
theorem sc__law_great:FnScope ["_law_pot_here","_law_great_here","_law_some"] ["_law_pot_here"] (A3 N0):=⟨rfl,rfl,rfl,by decide +kernel,rfl,by decide +kernel,by decide +kernel⟩
theorem a8i(F:FunAt K mg "_law_great" N0 ["_law_pot_here"])(T:Tx mg)(O__law_next:Ok P w K mg base "_law_next" 1 ["_law_pot_here","_law_many"] Q8)(O__law_of:Ok P w K mg base "_law_of" 2 ["_law_pot_here","_law_some"] a9j):Ok P w K mg base "_law_great" 3 ["_law_pot_here"] b4f:=by
 refine F.okJ sc__law_great (λvs H Q E h=>?_) (λcdv f A outer s H vs Q E hr h=>?_)
 .obtain⟨a,b,rfl,_⟩:=h;rfl
 .obtain⟨a,b,rfl,hP,k⟩:=h;have hz:(100000:Nat)<=sizeLine:=by rw[sizeLine_eq];decide
  refine⟨_,(A1 (B3 (i:=1) sc__law_great.nd rfl (Or.inl rfl) (a8A A2 A2))
 (A1 (B3 (i:=2) sc__law_great.nd rfl (Or.inl rfl) (C5 (jaC A2 (jaC (a4f (A7 O__law_next (hr.mono (by omega)) rfl (jaC (jv 0) (jaC A2 jaN))) A2) (jaC A2 (jaC (Q3 A2) (jaC (jv 1) (jaC (Q3 (jv 1)) (jaC (a4f (A7 O__law_next (hr.mono (by omega)) rfl (jaC (jv 0) (jaC (O1 (a1x A2 (jv 1)) A2) jaN))) (jv 1)) jaN)))))))))
 (A5 (B0 (A7 O__law_of (hr.mono (by omega)) rfl (jaC (jv 0) (jaC (jv 2) jaN))))))),?_⟩
  refine⟨_,_,rfl,rfl,⟨by decide,by decide,by decide⟩,?_⟩;dsimp only[A9];rw[show(10:Int) ^ Int.toNat 12=1000000000000 by decide];refine⟨_,rfl,a,b,7,rfl,hP,by decide,by decide +kernel,λr1 H1 h10 h11 P1 f1=>⟨_,_,rfl,rfl,?_⟩⟩;refine⟨_,rfl,_,rfl,_,rfl,_,rfl,_,rfl,_,rfl,_,_,rfl,rfl,.inl ⟨by decide,by decide⟩,_,_,rfl,rfl,a,b,_,rfl,P1,by decide,by decide +kernel,λr2 H2 h20 h21 P2 f2=>?_⟩;have h21:r2<2*1000000000000+1:=h21;refine⟨_,rfl,_,_,rfl,rfl,by show 7<=sizeLine;omega,λp hp=>?_⟩;have s3:=(Same.refl H2).upd (o:=.lst [V.int 0,V.int (r1-3),V.int 1,V.int (-1),V.int 1000000000000,V.int (-1000000000000),V.int (r2-1000000000000)]) hp;have q3:=C1 P2 hp;refine⟨_,rfl,_,rfl,a,b,p,_,rfl,P2.same s3,A0,q3,by show 0<7;decide,by show 7<=1000;decide,λr H4 hr P4 f4=>?_⟩;have o4:=((f1.trans f2).trans s3.off).trans f4;have fin:∀x:Int,r=V.int x -> -topN<=x->x<=topN->Q r H4:=λx e h1 h2=>by rw[e];exact k x H4 h1 h2 P4 o4
  simp only[List.mem_cons,List.not_mem_nil,or_false]at hr;rcases hr with e|e|e|e|e|e|e
  .exact fin _ e (by decide) (by decide)
  .exact fin _ e (by unfold topN;omega) (by unfold topN;omega)
  .exact fin _ e (by decide) (by decide)
  .exact fin _ e (by decide) (by decide)
  .exact fin _ e (by decide) (by decide)
  .exact fin _ e (by decide) (by decide)
  .exact fin _ e (by unfold topN;omega) (by unfold topN;omega)
theorem SysAt.pot{H H':Hp}{a b:Addr}{v:V}{ns:List Str}{rows:LLI}{sides:List Int}{caps:List (Option Int)}{prices:List Int}(h:SysAt H v ns rows sides caps prices)(hP:PotAt H a b)(o:Off [a,b] H H'):SysAt H' v ns rows sides caps prices :=
 let ⟨c,n,r,t,cc,p,us,e,e1,e2,e3,e4,e5,e6,e7⟩:=h.ex
 ⟨c,n,r,t,cc,p,us,e,o _ _ (C7 hP e1) e1,o _ _ (C7 hP e2) e2,o _ _ (C7 hP e3) e3,Its.pot e4 hP o,o _ _ (C7 hP e5) e5,o _ _ (C7 hP e6) e6,o _ _ (C7 hP e7) e7⟩
def b4g:Sp:=λvs H Q _=>∃(a b:Addr),vs=[.ref a]/\PotAt H a b/\∀v ns rows sides caps prices H',SysAt H' v ns rows sides caps prices->SysOk ns rows sides caps prices->PotAt H' a b->Off [a,b] H H'->Q v H'
theorem sc__law_drawn:FnScope ["_law_pot_here","_law_names_here","_law_rows","_law_k","_law_sides","_law_caps"] ["_law_pot_here"] (A3 N1):=⟨rfl,rfl,rfl,by decide +kernel,rfl,by decide +kernel,by decide +kernel⟩
theorem a8j(F:FunAt K mg "_law_drawn" N1 ["_law_pot_here"])(T:Tx mg)(O__law_next:Ok P w K mg base "_law_next" 1 ["_law_pot_here","_law_many"] Q8)(O__law_of:Ok P w K mg base "_law_of" 2 ["_law_pot_here","_law_some"] a9j)(O__law_names:Ok P w K mg base "_law_names" 3 ["_law_pot_here"] b1d)(O__law_great:Ok P w K mg base "_law_great" 3 ["_law_pot_here"] b4f):Ok P w K mg base "_law_drawn" 4 ["_law_pot_here"] b4g:=by
 refine F.okJ sc__law_drawn (λvs H Q E h=>?_) (λcdv f A outer s H vs Q E hr h=>?_)
 .obtain⟨a,b,rfl,_⟩:=h;rfl
 .obtain⟨a,b,rfl,hP,k⟩:=h;have hz:(100000:Nat)<=sizeLine:=by rw[sizeLine_eq];decide
  refine⟨_,(A1 (B3 (i:=1) sc__law_drawn.nd rfl (Or.inl rfl) (A7 O__law_names (hr.mono (by omega)) rfl (jaC (jv 0) jaN)))
 (A1 (B3 (i:=2) sc__law_drawn.nd rfl (Or.inl rfl) (C5 jaN))
 (A1 (R3 (R9 rfl T.b_range (jaC (A7 O__law_next (hr.mono (by omega)) rfl (jaC (jv 0) (jaC (J5 K (C5 (jaC A2 (jaC A2 jaN))) (a3h rfl T.b_int (jaC (a1t (A7 O__law_next (hr.mono (by omega)) rfl (jaC (jv 0) (jaC A2 jaN))) A2) jaN))) jaN))) jaN)) (A8 (i:=3) sc__law_drawn.nd rfl (Or.inl rfl))
 (A5 (C4 (C8 K (jv 2) (jaC (E3 K rfl T.b_tuple (jaC (J2 (N:=["_law_name","_law_pot_here"]) (src:=[none,some 0]) (X7 K (jv 1)) (by show D0 _ _=true;rfl) (by rfl) (by rfl)
 (λ_ _ _ _ _=>(A8 (i:=0) (show(["_law_name","_law_pot_here"]:List Str).Nodup by decide +kernel) rfl (Or.inl rfl))) (λ_ _ _ _ _=>E7) (λ_ _ _ _ _=>(A7 O__law_great (hr.mono (by omega)) rfl (jaC (jv 1) jaN)))) jaN)) jaN)))))
 (A1 (B3 (i:=4) sc__law_drawn.nd rfl (Or.inl rfl) (E3 K rfl T.b_tuple (jaC (J2 (N:=["_law_row","_law_pot_here"]) (src:=[none,some 0]) (N3 K (jv 2)) (by show D0 _ _=true;rfl) (by rfl) (by rfl)
 (λ_ _ _ _ _=>(A8 (i:=0) (show(["_law_row","_law_pot_here"]:List Str).Nodup by decide +kernel) rfl (Or.inl rfl))) (λ_ _ _ _ _=>E7) (λ_ _ _ _ _=>(A7 O__law_great (hr.mono (by omega)) rfl (jaC (jv 1) jaN)))) jaN)))
 (A1 (B3 (i:=5) sc__law_drawn.nd rfl (Or.inl rfl) (E3 K rfl T.b_tuple (jaC (J2 (N:=["_law_name","_law_pot_here"]) (src:=[none,some 0]) (X7 K (jv 1)) (by show D0 _ _=true;rfl) (by rfl) (by rfl)
 (λ_ _ _ _ _=>(A8 (i:=0) (show(["_law_name","_law_pot_here"]:List Str).Nodup by decide +kernel) rfl (Or.inl rfl))) (λ_ _ _ _ _=>E7) (λ_ _ _ _ _=>(A7 O__law_of (hr.mono (by omega)) rfl (jaC (jv 1) (jaC (C5 (jaC G9 (jaC A2 (jaC (a3j rfl T.b_abs (jaC (A7 O__law_great (hr.mono (by omega)) rfl (jaC (jv 1) jaN)) jaN)) jaN)))) jaN))))) jaN)))
 (A5 (B0 (a4e (jaC (jv 1) (jaC (E3 K rfl T.b_tuple (jaC (jv 2) jaN)) (jaC (jv 4) (jaC (jv 5) (jaC (E3 K rfl T.b_tuple (jaC (J2 (N:=["_law_name","_law_pot_here"]) (src:=[none,some 0]) (X7 K (jv 1)) (by show D0 _ _=true;rfl) (by rfl) (by rfl)
 (λ_ _ _ _ _=>(A8 (i:=0) (show(["_law_name","_law_pot_here"]:List Str).Nodup by decide +kernel) rfl (Or.inl rfl))) (λ_ _ _ _ _=>E7) (λ_ _ _ _ _=>(a3j rfl T.b_abs (jaC (A7 O__law_great (hr.mono (by omega)) rfl (jaC (jv 1) jaN)) jaN)))) jaN)) jaN))))))))))))),?_⟩
  refine⟨_,rfl,a,b,rfl,hP,λt ns H1 ht hnm h1 h7 P1 o1=>?_⟩;dsimp only[A9];refine⟨Nat.zero_le _,λpr hpr=>?_⟩;have fr:H pr=none:=R7 o1 P1 hpr;have qr:pr∉[a,b]:=C1 P1 hpr;have s2:=(Same.refl H1).upd (o:=.lst []) hpr;have e2:upd H1 pr (.lst []) pr=some (.lst []):=A0;have P2:=P1.same s2;have o2:=o1.trans s2.off;have ht2:=s2 _ _ ht;generalize upd H1 pr (.lst [])=H2 at e2 P2 o2 ht2;clear s2 hpr o1 P1 ht;dsimp only[A9];refine⟨_,rfl,by show 2<=sizeLine;omega,λp3 hp3=>?_⟩;have q3:p3∉[a,b]:=C1 P2 hp3;have s3:=(Same.refl H2).upd (o:=.lst [V.int 3,V.int 7]) hp3;have e3:upd H2 p3 (.lst [V.int 3,V.int 7]) p3=some (.lst [V.int 3,V.int 7]):=A0;have P3:=P2.same s3;have o3:=o2.trans s3.off;have er3:=s3 _ _ e2;have ht3:=s3 _ _ ht2;generalize upd H2 p3 (.lst [V.int 3,V.int 7])=H3 at e3 P3 o3 er3 ht3;clear s3 hp3 o2 P2 ht2 e2;refine⟨_,rfl,a,b,8,rfl,P3,by decide,by decide +kernel,λr4 H4 _ _ P4 f4=>⟨rfl,?_⟩⟩;obtain⟨mi,hm1,hm2⟩:=two_at 3 7 (decide (V.int r4=V.int 0));refine .inr ⟨_,rfl,p3,_,_,_,rfl,rfl,SqL.of (f4 _ _ q3 e3),hm1,a,b,mi,rfl,P4,by omega,Int.lt_of_le_of_lt (show mi<=7 by omega) (by decide +kernel),λr5 H5 h50 h51 P5 f5=>?_⟩;obtain⟨m,rfl⟩:∃g:Nat,r5=g:=⟨r5.toNat,by omega⟩;have hm6:m<=6:=by omega
  have o5:=(o3.trans f4).trans f5;have er5:=f5 _ _ qr (f4 _ _ qr er3);have ht5:=f5 _ _ (C7 P4 (f4 _ _ (C7 P3 ht3) ht3)) (f4 _ _ (C7 P3 ht3) ht3);clear o3 f4 f5 P3 P4 er3 ht3 e3 h50 h51 hm1 hm2;refine⟨m,rfl,by omega,by omega,?_⟩;rw[Int.toNat_natCast];have rtne:pr≠t:=a0B er5 ht5 (by intro z;cases z);refine W2 (lo:=0) (n:=m) (λi σ H'=>∃o3 us rows,σ=[some (.ref a),some (.ref t),some (.ref pr),o3,none,none]/\H' pr=some (.lst us)/\Its H' us rows/\rows.length=i/\(∀r∈rows,r.length=ns.length/\Bds r)/\H' t=some (.tup (ns.map V.str))/\PotAt H' a b/\Off [a,b] H H') ⟨_,[],[],rfl,er5,.nil,rfl,λr hr=>(nomatch hr),ht5,P5,o5⟩ ?_ ?_
  .rintro i σ H' hi ⟨o3,us,rows,rfl,c1,c2,c3,c4,c5,P',o'⟩;dsimp only[A9];refine⟨_,rfl,.inl ⟨rfl,_,SqL.of c1⟩,_,rfl,t,rfl,⟨_,SqT.of c5⟩,?_⟩;refine a1H (caps:=[some (.ref a)]) (λu=>∃x,u=V.int x/\(-topN<=x/\x<=topN)) (by rw[List.length_map];omega) rfl P' c5 (λv H6 N P6 q=>⟨_,rfl,a,b,rfl,P6,λx H7 x1 x2 P7 f7=>q _ _ ⟨x,rfl,x1,x2⟩ P7 f7⟩) λH6 p6 ys hl hys P6 f6 hp6=>?_;obtain⟨xs,rfl,hxl,hxb⟩:=Y0 hys;simp only[List.length_map]at hl hxl;have s7:=(Same.refl H6).upd (o:=.lst (xs.map V.int)) hp6;have e7:upd H6 p6 (.lst (xs.map V.int)) p6=some (.lst (xs.map V.int)):=A0;have P7:=P6.same s7;have o7:=(o'.trans f6).trans s7.off;have c17:=s7 _ _ (f6 _ _ qr c1);have c27:=(Its.pot c2 P' f6).same s7;have c57:=s7 _ _ (f6 _ _ (C7 P' c5) c5);generalize upd H6 p6 (.lst (xs.map V.int))=H7 at e7 P7 o7 c17 c27 c57;refine⟨p6,_,rfl,.inl ⟨SqL.of e7,λp8 hp8=>?_⟩⟩;have s8:=(Same.refl H7).upd (o:=.tup (xs.map V.int)) hp8;have e8:upd H7 p8 (.tup (xs.map V.int)) p8=some (.tup (xs.map V.int)):=A0;have P8:=P7.same s8;have o8:=o7.trans s8.off;have c18:=s8 _ _ c17;have c28:=c27.same s8;have c58:=s8 _ _ c57;generalize upd H7 p8 (.tup (xs.map V.int))=H8 at e8 P8 o8 c18 c28 c58;refine⟨pr,us,_,rfl,rfl,c18,by rw[c28.1,c3];omega,?_⟩;refine⟨_,us++[V.ref p8],rows++[xs],rfl,A0,(c28.snoc ⟨p8,rfl,e8⟩).put c18,by rw[List.length_append,c3];rfl,λr hr=>?_,by rw[A6 rtne.symm];exact c58,J0 P8 qr,U5 o8 fr⟩;rcases List.mem_append.mp hr with z|z
   .exact c4 r z
   .rw[List.mem_singleton.mp z];exact⟨by omega,hxb⟩
  .rintro σ H' ⟨o3,us,rows,rfl,c1,c2,c3,c4,c5,P',o'⟩;refine⟨_,rfl,pr,rfl,⟨_,SqL.of c1⟩,?_⟩;refine a8R (caps:=[some (.ref a)]) (λu=>∃x,u=V.int x/\(-topN<=x/\x<=topN)) (by rw[c2.1];omega) rfl P' c1 qr (λv H6 N P6 q=>⟨_,rfl,a,b,rfl,P6,λx H7 x1 x2 P7 f7=>q _ _ ⟨x,rfl,x1,x2⟩ P7 f7⟩) λH6 p6 ys hl hys P6 f6 hp6=>?_;obtain⟨sides,rfl,hsl,hsb⟩:=Y0 hys;simp only[List.length_map]at hl hsl;have s7:=(Same.refl H6).upd (o:=.lst (sides.map V.int)) hp6;have e7:upd H6 p6 (.lst (sides.map V.int)) p6=some (.lst (sides.map V.int)):=A0;have P7:=P6.same s7;have o7:=(o'.trans f6).trans s7.off;have c17:=s7 _ _ (f6 _ _ qr c1);have c27:=(Its.pot c2 P' f6).same s7;have c57:=s7 _ _ (f6 _ _ (C7 P' c5) c5);generalize upd H6 p6 (.lst (sides.map V.int))=H7 at e7 P7 o7 c17 c27 c57;refine⟨p6,_,rfl,.inl ⟨SqL.of e7,λp8 hp8=>?_⟩⟩;have s8:=(Same.refl H7).upd (o:=.tup (sides.map V.int)) hp8;have e8:upd H7 p8 (.tup (sides.map V.int)) p8=some (.tup (sides.map V.int)):=A0;have P8:=P7.same s8;have o8:=o7.trans s8.off;have c18:=s8 _ _ c17;have c28:=c27.same s8;have c58:=s8 _ _ c57;generalize upd H7 p8 (.tup (sides.map V.int))=H8 at e8 P8 o8 c18 c28 c58;clear s7 s8 c17 c27 c57 P7 o7 e7 hp6 hp8 f6 P6 c1 c2 c5 P' o';dsimp only[A9];refine⟨_,rfl,t,rfl,⟨_,SqT.of c58⟩,?_⟩;refine a1H (caps:=[some (.ref a)]) (λu=>∃o:Option Int,u=ovI o/\∀x,some x=o->0<=x/\x<=topN) (by rw[List.length_map];omega) rfl P8 c58 (λv H9 N P9 q=>?_) λH9 p9 ys hl9 hys P9 f9 hp9=>?_
   .refine⟨_,rfl,_,rfl,a,b,rfl,P9,λx H10 x1 x2 P10 f10=>⟨_,rfl,by show 3<=sizeLine;omega,λp11 hp11=>?_⟩⟩;have s11:=(Same.refl H10).upd (o:=.lst [V.non,V.int 0,V.int (if x<0 then -x else x)]) hp11;refine⟨a,b,p11,_,rfl,P10.same s11,A0,C1 P10 hp11,by show 0<3;decide,by show 3<=1000;decide,λr H12 hr P12 f12=>q r H12 ?_ P12 ((f10.trans s11.off).trans f12)⟩;simp only[List.mem_cons,List.not_mem_nil,or_false]at hr;rcases hr with e|e|e
    .exact⟨none,e,λx z=>nomatch z⟩
    .exact⟨some 0,e,λx z=>by cases z;exact⟨by decide,by decide⟩⟩
    .refine⟨some (if x<0 then -x else x),e,λy z=>?_⟩;cases z;unfold topN at *;split<;>omega
   obtain⟨caps,rfl,hcl,hcb⟩:=Y0 hys;simp only[List.length_map]at hl9 hcl;have s10:=(Same.refl H9).upd (o:=.lst (caps.map ovI)) hp9;have e10:upd H9 p9 (.lst (caps.map ovI)) p9=some (.lst (caps.map ovI)):=A0;have P10:=P9.same s10;have o10:=(o8.trans f9).trans s10.off;have d1:=s10 _ _ (f9 _ _ qr c18);have d2:=(Its.pot c28 P8 f9).same s10;have d5:=s10 _ _ (f9 _ _ (C7 P8 c58) c58);have d8:=s10 _ _ (f9 _ _ (C7 P8 e8) e8);generalize upd H9 p9 (.lst (caps.map ovI))=H10 at e10 P10 o10 d1 d2 d5 d8;refine⟨p9,_,rfl,.inl ⟨SqL.of e10,λp11 hp11=>?_⟩⟩;have s11:=(Same.refl H10).upd (o:=.tup (caps.map ovI)) hp11;have e11:upd H10 p11 (.tup (caps.map ovI)) p11=some (.tup (caps.map ovI)):=A0;have P11:=P10.same s11;have o11:=o10.trans s11.off;have g1:=s11 _ _ d1;have g2:=d2.same s11;have g5:=s11 _ _ d5;have g8:=s11 _ _ d8;generalize upd H10 p11 (.tup (caps.map ovI))=H11 at e11 P11 o11 g1 g2 g5 g8;have hus:=c28.1;clear s10 s11 d1 d2 d5 d8 P10 o10 e10 hp9 hp11 f9 P9 c18 c28 c58 P8 o8 e8;dsimp only[A9];refine⟨_,rfl,_,rfl,pr,us,rfl,.inl ⟨SqL.of g1,λp12 hp12=>?_⟩⟩;have s12:=(Same.refl H11).upd (o:=.tup us) hp12;have e12:upd H11 p12 (.tup us) p12=some (.tup us):=A0;have P12:=P11.same s12;have o12:=o11.trans s12.off;have i2:=g2.same s12;have i5:=s12 _ _ g5;have i8:=s12 _ _ g8;have i11:=s12 _ _ e11;generalize upd H11 p12 (.tup us)=H12 at e12 P12 o12 i2 i5 i8 i11;refine⟨_,rfl,_,rfl,_,rfl,t,rfl,⟨_,SqT.of i5⟩,?_⟩;refine a1H (caps:=[some (.ref a)]) (λu=>∃x,u=V.int x/\(0<=x/\x<=topN)) (by rw[List.length_map];omega) rfl P12 i5 (λv H13 N P13 q=>⟨_,rfl,a,b,rfl,P13,λx H14 x1 x2 P14 f14=>⟨_,rfl,q _ _ ⟨_,rfl,by unfold topN at *;split<;>omega⟩ P14 f14⟩⟩) λH13 p13 ys hl13 hys P13 f13 hp13=>?_;obtain⟨prices,rfl,hpl,hpb⟩:=Y0 hys;simp only[List.length_map]at hl13 hpl;have s14:=(Same.refl H13).upd (o:=.lst (prices.map V.int)) hp13;have e14:upd H13 p13 (.lst (prices.map V.int)) p13=some (.lst (prices.map V.int)):=A0;have P14:=P13.same s14;have o14:=(o12.trans f13).trans s14.off;have j2:=(Its.pot i2 P12 f13).same s14;have j5:=s14 _ _ (f13 _ _ (C7 P12 i5) i5);have j8:=s14 _ _ (f13 _ _ (C7 P12 i8) i8);have j11:=s14 _ _ (f13 _ _ (C7 P12 i11) i11);have j12:=s14 _ _ (f13 _ _ (C7 P12 e12) e12);generalize upd H13 p13 (.lst (prices.map V.int))=H14 at e14 P14 o14 j2 j5 j8 j11 j12;refine⟨p13,_,rfl,.inl ⟨SqL.of e14,λp15 hp15=>?_⟩⟩;have s15:=(Same.refl H14).upd (o:=.tup (prices.map V.int)) hp15;have e15:upd H14 p15 (.tup (prices.map V.int)) p15=some (.tup (prices.map V.int)):=A0;generalize upd H14 p15 (.tup (prices.map V.int))=H15 at s15 e15;refine⟨by show 5<=sizeLine;omega,λp16 hp16=>?_⟩;have s16:=(Same.refl H15).upd (o:=.tup [.ref t,.ref p12,.ref p8,.ref p11,.ref p15]) hp16;have ss:=s15.trans s16;refine k _ ns rows sides caps prices _ ⟨p16,t,p12,p8,p11,p15,us,rfl,A0,ss _ _ j5,ss _ _ j12,j2.same ss,ss _ _ j8,ss _ _ j11,s16 _ _ e15⟩ ⟨hnm,h1,h7,by omega,c4,?_,hsb,by omega,λx hx=>hcb _ hx x rfl,by omega,hpb⟩ (P14.same ss) (o14.trans ss.off);omega
end
end K46
namespace K46
open PySem PySem.Spec PyProof.Rows L2
def Sc(x:V):Prop:=(∃i,x=.int i)∨(∃z,x=.str z)∨x=.non
def SD(H:Hp):Nat->V->V->Prop
 |0,_,_=>False
 |n+1,x,y=>(Sc x/\y=x)∨∃a b xs ys,x=.ref a/\y=.ref b/\H a=some (.tup xs)/\H b=some (.tup ys)/\xs.length=ys.length/\xs.length<=1000/\∀(i:Nat) x' y',xs[i]?=some x'->ys[i]?=some y'->SD H n x' y'
theorem SD.same{H H':Hp}(s:Same H H'):∀{n:Nat}{x y:V},SD H n x y->SD H' n x y
 |0,_,_,h=>h
 |n+1,x,y,h=>by
  rcases h with h|⟨a,b,xs,ys,h1,h2,h3,h4,h5,h6,h7⟩
  .exact .inl h
  .exact .inr ⟨a,b,xs,ys,h1,h2,s _ _ h3,s _ _ h4,h5,h6,λi x' y' e e'=>SD.same s (h7 i x' y' e e')⟩
theorem SD.flat{H:Hp}{a b:Addr}{xs:List V}(ha:H a=some (.tup xs))(hb:H b=some (.tup xs))(hl:xs.length<=1000)(hs:∀x∈xs,Sc x):SD H 2 (.ref a) (.ref b):=by
 refine .inr ⟨a,b,_,_,rfl,rfl,ha,hb,rfl,hl,λi x' y' e e'=>?_⟩;rw[e]at e';cases e';exact .inl ⟨hs _ (List.mem_of_getElem? e),rfl⟩
theorem SD.up{H:Hp}:∀{n:Nat}{x y:V},SD H n x y->SD H (n+1) x y
 |0,_,_,h=>h.elim
 |n+1,x,y,h=>by
  rcases h with h|⟨a,b,xs,ys,h1,h2,h3,h4,h5,h6,h7⟩
  .exact .inl h
  .exact .inr ⟨a,b,xs,ys,h1,h2,h3,h4,h5,h6,λi x' y' e e'=>(h7 i x' y' e e').up⟩
theorem a4F(xs:List Int):∀x∈xs.map V.int,Sc x:=λx hx=>by obtain⟨i,_,rfl⟩:=List.mem_map.mp hx;exact .inl ⟨i,rfl⟩
theorem b1P(xs:List Str):∀x∈xs.map V.str,Sc x:=λx hx=>by obtain⟨i,_,rfl⟩:=List.mem_map.mp hx;exact .inr (.inl ⟨i,rfl⟩)
theorem b4i(xs:List (Option Int)):∀x∈xs.map ovI,Sc x:=λx hx=>by
 obtain⟨i,_,rfl⟩:=List.mem_map.mp hx;cases i with
 |none=>exact .inr (.inr rfl)
 |some i=>exact .inl ⟨i,rfl⟩
theorem SD.sys{H:Hp}{u v:V}{ns:List Str}{rows:LLI}{sides:List Int}{caps:List (Option Int)}{prices:List Int}(hu:SysAt H u ns rows sides caps prices)(hv:SysAt H v ns rows sides caps prices)(ho:SysOk ns rows sides caps prices):SD H 4 u v:=by
 obtain⟨a,n,r,t,c,p,us,rfl,e1,e2,e3,e4,e5,e6,e7⟩:=hu.ex;obtain⟨a',n',r',t',c',p',us',rfl,f1,f2,f3,f4,f5,f6,f7⟩:=hv.ex;have h7:=ho.n7;have hR:SD H 3 (.ref r) (.ref r'):=by
  refine .inr ⟨r,r',us,us',rfl,rfl,e3,f3,by rw[e4.1,f4.1],by rw[e4.1];have:=ho.rl;omega,λi x y hx hy=>?_⟩;obtain⟨q,hq,b,rfl,hb⟩:=e4.2 i x hx;obtain⟨q',hq',b',rfl,hb'⟩:=f4.2 i y hy;rw[hq]at hq';cases hq';exact SD.flat hb hb' (by rw[List.length_map,(ho.rw q (List.mem_of_getElem? hq)).1];omega) (a4F q)
 refine .inr ⟨a,a',_,_,rfl,rfl,e1,f1,rfl,by show 5<=1000;decide,λi x y hx hy=>?_⟩
 match i,hx,hy with
 |0,hx,hy=>cases hx;cases hy;exact(SD.flat e2 f2 (by rw[List.length_map];omega) (b1P ns)).up
 |1,hx,hy=>cases hx;cases hy;exact hR
 |2,hx,hy=>cases hx;cases hy;exact(SD.flat e5 f5 (by rw[List.length_map,ho.sl];have:=ho.rl;omega) (a4F sides)).up
 |3,hx,hy=>cases hx;cases hy;exact(SD.flat e6 f6 (by rw[List.length_map,ho.cl];omega) (b4i caps)).up
 |4,hx,hy=>cases hx;cases hy;exact(SD.flat e7 f7 (by rw[List.length_map,ho.pl];omega) (a4F prices)).up
 |i+5,hx,_=>cases hx
section
variable {P:Program}{w:World}{K:PySem.W.Frag}{mg:Str->Option Value}{base:Heap}
def a7n(n:Nat):Sp:=λvs H Q _=>∃x y,vs=[x,y]/\SD H n x y/\∀H',Same H H'->Q (.bl true) H'
theorem b0b{x:Str}{st:Stmt}{ps:List Str}{k:Nat}(F:FunAt K mg x st ps):Ok P w K mg base x k ps (λ_ _ _ _=>False):=by
 obtain⟨f,fd,h1,h2,h3⟩:=F.ex;exact⟨f,fd,h1,h2.kp,h3,⟨λ_ _ _ _ z=>z.elim,λ_ _ _ _ _ _ _ _ _ _ _ _ _ z=>z.elim⟩⟩
theorem a2R:FnScope ["_law_found","_law_due"] ["_law_found","_law_due"] (A3 O6):=⟨rfl,rfl,rfl,by decide +kernel,rfl,by decide +kernel,by decide +kernel⟩
theorem a5s(F:FunAt K mg "_law_same" O6 ["_law_found","_law_due"])(T:Tx mg):∀n:Nat,Ok P w K mg base "_law_same" (n+1) ["_law_found","_law_due"] (a7n n)
 |0=>(b0b F).imp λvs H Q E ⟨_,_,_,z,_⟩=>z
 |n+1=>by
  have O__law_same:=a5s F T n;refine F.okJ a2R (λvs H Q E h=>?_) (λcdv f A outer s H vs Q E hr h=>?_)
  .obtain⟨x,y,rfl,_⟩:=h;rfl
  .obtain⟨x,y,rfl,hS,kk⟩:=h;refine⟨_,(A1 (C0 (T0 K (E5 K rfl T.b_isinstance (jaC (jv 1) (jaC (a0v (v:=.ty "tuple") rfl T.b_tuple a1P rfl) jaN))))
 (A1 (C0 (Z6 (T6 (V1 (T0 K (E5 K rfl T.b_isinstance (jaC (jv 0) (jaC (a0v (v:=.ty "tuple") rfl T.b_tuple a1P rfl) jaN))))) (R1 (a3Y (G0 K rfl T.b_len (jaC (jv 0) jaN)) (G0 K rfl T.b_len (jaC (jv 1) jaN))))))
 (A5 (B0 a0L))
 B6)
 (A5 (B0 (a3i K rfl T.b_all (jaC (J2 (N:=["_law_one","_law_other"]) (src:=[none,none]) (T3 K rfl T.b_zip (jaC (jv 0) (jaC (jv 1) jaN))) (by show D0 _ _=true;rfl) (by rfl) (by rfl)
 (λ_ _ _ _ _=>(K4 K 2 (B1 (A8 (i:=0) (show(["_law_one","_law_other"]:List Str).Nodup by decide +kernel) rfl (Or.inl rfl)) (B1 (A8 (i:=1) (show(["_law_one","_law_other"]:List Str).Nodup by decide +kernel) rfl (Or.inl rfl)) E8)))) (λ_ _ _ _ _=>E7) (λ_ _ _ _ _=>(A7 O__law_same (hr.mono (by omega)) rfl (jaC (jv 0) (jaC (jv 1) jaN))))) jaN)))))
 B6)
 (A1 (C0 (X6 (jv 1) G9)
 (A5 (B0 (b2T (jv 0) G9)))
 B6)
 (A1 (C0 (T0 K (E5 K rfl T.b_isinstance (jaC (jv 1) (jaC (a0v (v:=.ty "str") rfl T.b_str a5b rfl) jaN))))
 (A5 (B0 (a1z (E5 K rfl T.b_isinstance (jaC (jv 0) (jaC (a0v (v:=.ty "str") rfl T.b_str a5b rfl) jaN))) (a1w (a1t (jv 0) (jv 1))))))
 B6)
 (A5 (B0 (a1z (E5 K rfl T.b_isinstance (jaC (jv 0) (jaC (a0v (v:=.ty "int") rfl T.b_int a5d rfl) jaN))) (a1z (b4J (E5 K rfl T.b_isinstance (jaC (jv 0) (jaC (a0v (v:=.ty "bool") rfl T.b_bool b0D rfl) jaN)))) (a1w (a1t (jv 0) (jv 1)))))))))),?_⟩
   rcases hS with⟨hsc,rfl⟩|⟨a,b,xs,ys,rfl,rfl,ha,hb,hl,hlen,hi⟩
   .rcases hsc with⟨i,rfl⟩|⟨z,rfl⟩|rfl
    .refine⟨_,rfl,_,_,_,false,rfl,.int i,rfl,_,rfl,L6 ?_⟩;refine⟨_,rfl,rfl,_,rfl,?_⟩;rw[decide_eq_false (by intro z;cases z)];refine L6 ⟨_,rfl,_,_,_,false,rfl,.int i,rfl,_,rfl,L6 ?_⟩;refine⟨_,rfl,_,_,_,true,rfl,.int i,rfl,_,rfl,R5 ?_⟩;refine⟨_,rfl,_,_,_,false,rfl,.int i,rfl,_,rfl,_,rfl,R5 ?_⟩;refine⟨_,rfl,_,rfl,rfl,?_⟩;rw[show decide (V.int i=V.int i)=true from decide_eq_true rfl];exact kk H (Same.refl H)
    .refine⟨_,rfl,_,_,_,false,rfl,.str z,rfl,_,rfl,L6 ?_⟩;refine⟨_,rfl,rfl,_,rfl,?_⟩;rw[decide_eq_false (by intro z;cases z)];refine L6 ⟨_,rfl,_,_,_,true,rfl,.str z,rfl,_,rfl,R5 ?_⟩;refine⟨_,rfl,_,_,_,true,rfl,.str z,rfl,_,rfl,R5 ?_⟩;refine⟨_,rfl,_,rfl,rfl,?_⟩;rw[show decide (V.str z=V.str z)=true from decide_eq_true rfl];exact kk H (Same.refl H)
    .refine⟨_,rfl,_,_,_,false,rfl,.non,rfl,_,rfl,L6 ?_⟩;refine⟨_,rfl,rfl,_,rfl,?_⟩;rw[decide_eq_true rfl];refine R5 ⟨_,rfl,rfl,?_⟩;rw[decide_eq_true rfl];exact kk H (Same.refl H)
   .refine⟨_,rfl,_,_,_,true,rfl,.tup hb,rfl,_,rfl,R5 ?_⟩;refine⟨_,rfl,_,_,_,true,rfl,.tup ha,rfl,_,rfl,L6 ?_⟩;refine⟨_,rfl,_,_,rfl,.inr (SqT.of ha),_,rfl,_,_,rfl,.inr (SqT.of hb),rfl,_,rfl,?_⟩;rw[show decide (V.int (xs.length:Int)=V.int (ys.length:Int))=true from decide_eq_true (by rw[hl])];refine L6 ?_;refine⟨_,rfl,_,rfl,true,true,a,b,rfl,⟨_,SqT.of ha⟩,⟨_,SqT.of hb⟩,?_⟩;have hz:(1000:Nat)<=sizeLine:=by rw[sizeLine_eq];decide
    refine V4 (K:=K) (k1:=true) (k2:=true) (a:=a) (b:=b) (xs:=xs) (zs:=ys) (by omega) (λi zs H'=>Same H H'/\zs=List.replicate i (.bl true)) ⟨Same.refl H,rfl⟩
     (λi zs H' _ _ h=>⟨SqT.of (h.1 _ _ ha),SqT.of (h.1 _ _ hb),by rw[h.2,List.length_replicate];exact Nat.le_refl _⟩) ?_ ?_
    .rintro i x z zs H' p hx hy ⟨s',rfl⟩ hp;have s2:Same H (upd H' p (.tup [x,z])):=s'.upd hp;refine⟨p,[x,z],rfl,SqT.of A0,rfl,x,[z],rfl,z,[],rfl,rfl,⟨rfl,λj v e=>?_⟩,?_⟩
     .match j,e with
      |0,e=>cases e
      |1,e=>cases e
     .refine⟨_,rfl,_,rfl,x,z,rfl,(hi i x z hx hy).same s2,λH3 s3=>⟨s2.trans s3,?_⟩⟩;rw[List.replicate_succ']
    .rintro zs H' ⟨s',rfl⟩ p hp;refine⟨false,p,_,rfl,SqL.of A0,?_,?_⟩
     .simp[a5I]
     .rw[show(List.replicate (min xs.length ys.length) (V.bl true)).all trV=true by simp[trV]];exact kk _ (s'.upd hp)
end
inductive Mg{α:Type}:List α->List α->List α->List α->Prop
 |nil:Mg [] [] [] []
 |a {x:α}{A B C O:List α}(h:Mg A B C O):Mg (x::A) B C (x::O)
 |b {x:α}{A B C O:List α}(h:Mg A B C O):Mg A (x::B) C (x::O)
 |c {x:α}{A B C O:List α}(h:Mg A B C O):Mg A B (x::C) (x::O)
structure SumL(ns:List Str)(ws:List Str)(q:List Int×Int):Prop where
 ex:∃r,ws=wd "sum" :: r/\M0 ns r=some (q.1++[-q.2])
 wl:Wl ws
inductive SumLs(ns:List Str):List (List Str)->List (List Int×Int)->Prop
 |nil:SumLs ns [] []
 |cons {ws:List Str}{q:List Int×Int}{L:List (List Str)}{Q:List (List Int×Int)}(h:SumL ns ws q) (r:SumLs ns L Q):SumLs ns (ws::L) (q::Q)
theorem SumLs.snoc{ns:List Str}{L:List (List Str)}{Q:List (List Int×Int)}{ws:List Str}{q:List Int×Int}(h:SumLs ns L Q)(g:SumL ns ws q):SumLs ns (L++[ws]) (Q++[q]):=by
 induction h with
 |nil=>exact .cons g .nil
 |cons a _ ih=>exact .cons a ih
theorem SumLs.all{ns:List Str}{L:List (List Str)}{Q:List (List Int×Int)}(h:SumLs ns L Q):L.length=Q.length/\∀ws∈L,Wl ws:=by
 induction h with
 |nil=>exact⟨rfl,λ_ z=>nomatch z⟩
 |cons a _ ih=>exact⟨by simp[ih.1],λws hws=>by rcases List.mem_cons.mp hws with rfl|z;exact a.wl;exact ih.2 ws z⟩
theorem a5U{d:Dr}{ws:List Str}{q:List Int×Int}(h0:d.names≠[])(h:SumL d.names ws q)(h6:d.rows.length<6):d.take ws=some {d with rows:=d.rows++[q.1],sides:=d.sides++[q.2]}:=by
 obtain⟨r,rfl,e⟩:=h.ex;unfold Dr.take;dsimp only;rw[if_neg h0,if_pos rfl,e];dsimp only;rw[if_neg (by omega)];simp
def a0h(q:Str×Int):List Str:=[wd "cap",q.1,C2 q.2]
def Z3(q:Str×Int):List Str:=[wd "price",q.1,C2 q.2]
structure NumOk(ns:List Str)(qs:List (Str×Int)):Prop where
 nd:(qs.map (·.1)).Nodup
 mem:∀q∈qs,q.1∈ns/\0<=q.2/\q.2<=topN
theorem a7d{A B C O:List (List Str)}(h:Mg A B C O):∀(d:Dr) (Q:List (List Int×Int)) (cs ps:List (Str×Int)),d.names≠[]->SumLs d.names A Q->B=cs.map a0h->C=ps.map Z3->d.rows.length+Q.length<=6 ->
  (∀q∈cs,q.1∈d.names/\0<=q.2/\q.2<=topN)->(d.caps.map (·.1)++cs.map (·.1)).Nodup->(∀q∈ps,q.1∈d.names/\0<=q.2/\q.2<=topN)->(d.prices.map (·.1)++ps.map (·.1)).Nodup ->
  B4 d O=some {d with rows:=d.rows++Q.map (·.1),sides:=d.sides++Q.map (·.2),caps:=d.caps++cs,prices:=d.prices++ps}:=by
 induction h with
 |nil =>
  intro d Q cs ps h0 hA hB hC _ _ _ _ _;cases hA;have hB:=List.map_eq_nil_iff.mp hB.symm;have hC:=List.map_eq_nil_iff.mp hC.symm;subst hB hC;simp[B4]
 |a h ih =>
  intro d Q cs ps h0 hA hB hC h6 hc1 hc2 hp1 hp2;cases hA with
  |cons ha hr =>
   rename_i q Q;show(d.take _).bind _=_;rw[a5U h0 ha (by rw[List.length_cons]at h6;omega)];refine Eq.trans (ih {d with rows:=d.rows++[q.1],sides:=d.sides++[q.2]} Q cs ps h0 hr hB hC (by simp at h6⊢;omega) hc1 hc2 hp1 hp2) ?_;simp
 |b h ih =>
  intro d Q cs ps h0 hA hB hC h6 hc1 hc2 hp1 hp2;cases cs with
  |nil=>cases hB
  |cons q cs =>
   rw[List.map_cons]at hB;injection hB with hB1 hB2
   subst hB1;obtain⟨a1,a2,a3⟩:=hc1 q List.mem_cons_self;have hc:q.1∉d.caps.map (·.1):=λz=>(List.nodup_append.mp hc2).2.2 _ z _ List.mem_cons_self rfl;show(d.take (a0h q)).bind _=_;unfold a0h;rw[a3B h0 a1 hc a2 a3];refine Eq.trans (ih {d with caps:=d.caps++[(q.1,q.2)]} Q cs ps h0 hA hB2 hC h6 (λr hr=>hc1 r (List.mem_cons_of_mem _ hr)) (by simpa using hc2) hp1 hp2) ?_;simp
 |c h ih =>
  intro d Q cs ps h0 hA hB hC h6 hc1 hc2 hp1 hp2;cases ps with
  |nil=>cases hC
  |cons q ps =>
   rw[List.map_cons]at hC;injection hC with hC1 hC2
   subst hC1;obtain⟨a1,a2,a3⟩:=hp1 q List.mem_cons_self;have hc:q.1∉d.prices.map (·.1):=λz=>(List.nodup_append.mp hp2).2.2 _ z _ List.mem_cons_self rfl;show(d.take (Z3 q)).bind _=_;unfold Z3;rw[a1f h0 a1 hc a2 a3];refine Eq.trans (ih {d with prices:=d.prices++[(q.1,q.2)]} Q cs ps h0 hA hB hC2 h6 hc1 hc2 (λr hr=>hp1 r (List.mem_cons_of_mem _ hr)) (by simpa using hp2)) ?_;simp
theorem Mg.mem{α:Type}{A B C O:List α}(h:Mg A B C O):∀x∈O,x∈A∨x∈B∨x∈C:=by
 induction h with
 |nil=>intro x hx;cases hx
 |a _ ih =>
  intro x hx;rcases List.mem_cons.mp hx with rfl|z
  .exact .inl List.mem_cons_self
  .rcases ih x z with q|q|q
   .exact .inl (List.mem_cons_of_mem _ q)
   .exact .inr (.inl q)
   .exact .inr (.inr q)
 |b _ ih =>
  intro x hx;rcases List.mem_cons.mp hx with rfl|z
  .exact .inr (.inl List.mem_cons_self)
  .rcases ih x z with q|q|q
   .exact .inl q
   .exact .inr (.inl (List.mem_cons_of_mem _ q))
   .exact .inr (.inr q)
 |c _ ih =>
  intro x hx;rcases List.mem_cons.mp hx with rfl|z
  .exact .inr (.inr List.mem_cons_self)
  .rcases ih x z with q|q|q
   .exact .inl q
   .exact .inr (.inl q)
   .exact .inr (.inr (List.mem_cons_of_mem _ q))
theorem Mg.len{α:Type}{A B C O:List α}(h:Mg A B C O):O.length=A.length+B.length+C.length:=by
 induction h with
 |nil=>rfl
 |a _ ih=>simp[ih];omega
 |b _ ih=>simp[ih];omega
 |c _ ih=>simp[ih];omega
theorem b4D{ns:List Str}(hn:Nms ns)(h1:1<=ns.length)(h7:ns.length<=7){A O:List (List Str)}{Q:List (List Int×Int)}{cs ps:List (Str×Int)}(hA:SumLs ns A Q)(hQ:Q.length<=6)(hc:NumOk ns cs)(hp:NumOk ns ps)(hm:Mg A (cs.map a0h) (ps.map Z3) O) :
  B4 dr0 ((wd "of" :: ns)::O)=some ⟨ns,Q.map (·.1),Q.map (·.2),cs,ps⟩/\(∀ws∈(wd "of" :: ns)::O,Wl ws)/\((wd "of" :: ns)::O).length<=30:=by
 have h0:ns≠[]:=λz=>by rw[z]at h1;exact absurd h1 (by decide)
 have t0:dr0.take (wd "of" :: ns)=some {dr0 with names:=ns}:=by
  unfold Dr.take;dsimp only;rw[if_pos (show dr0.names=[] from rfl),if_pos ⟨rfl,h1,h7,hn.nd,hn.nm⟩]
 have hle:∀qs:List (Str×Int),NumOk ns qs->qs.length<=7:=λqs h=>by
  have:=Tab.nodup_le (qs.map (·.1)) ns h.nd λx hx=>by obtain⟨q,hq,rfl⟩:=List.mem_map.mp hx;exact(h.mem q hq).1
  rw[List.length_map]at this;omega
 have wnum:∀(w1:Str) (q:Str×Int),Wg w1->(q.1∈ns/\0<=q.2/\q.2<=topN)->Wl [w1,q.1,C2 q.2]:=λw1 q hw hq=>by
  refine a2g (by simp) (by show 3<=400;decide) λx hx=>?_;simp only[List.mem_cons,List.not_mem_nil,or_false]at hx;rcases hx with rfl|rfl|rfl
  .exact hw
  .exact(hn.nm _ hq.1).wg
  .exact T5 hq.2.2
 refine⟨?_,λws hws=>?_,?_⟩
 .show(dr0.take (wd "of" :: ns)).bind (λd'=>B4 d' _)=_;rw[t0];refine Eq.trans (a7d hm {dr0 with names:=ns} Q cs ps h0 hA rfl rfl (by show 0+_<=6;omega) hc.mem (by show([]++_).Nodup;exact hc.nd) hp.mem (by show([]++_).Nodup;exact hp.nd)) ?_;simp[dr0]
 .rcases List.mem_cons.mp hws with rfl|z
  .refine a2g (by simp) (by rw[List.length_cons];omega) λx hx=>?_;rcases List.mem_cons.mp hx with rfl|z
   .exact wg_lit.1
   .exact(hn.nm x z).wg
  .rcases hm.mem ws z with q|q|q
   .exact hA.all.2 ws q
   .obtain⟨x,hx,rfl⟩:=List.mem_map.mp q;exact wnum _ x wg_lit.2.2.1 (hc.mem x hx)
   .obtain⟨x,hx,rfl⟩:=List.mem_map.mp q;exact wnum _ x wg_lit.2.2.2.1 (hp.mem x hx)
 .have:=hm.len;have h3:=hA.all.1;have h4:=hle cs hc;have h5:=hle ps hp;rw[List.length_map,List.length_map]at this;rw[List.length_cons];omega
def TxL(H:Hp)(a:Addr)(L:List (List Str)):Prop:=H a=some (.lst ((L.map (Str.join bk)).map V.str))
structure MgI{α:Type}(A B C:List α)(O:List α)(Ls:List (List α)):Prop where
 ex:∃i j k,Ls=[A.drop i,B.drop j,C.drop k].filter (λl=>!l.isEmpty)/\∀R,Mg (A.drop i) (B.drop j) (C.drop k) R->Mg A B C (O++R)
theorem MgI.start{α:Type}(A B C:List α):MgI A B C [] ([A,B,C].filter λl=>!l.isEmpty):=⟨0,0,0,rfl,λR h=>h⟩
theorem MgI.done{α:Type}{A B C O:List α}(h:MgI A B C O []):Mg A B C O:=by
 obtain⟨i,j,k,e,h⟩:=h.ex;have h1:A.drop i=[]:=by
  cases q:A.drop i with
  |nil=>rfl
  |cons x r=>rw[q]at e;simp at e
 have h2:B.drop j=[]:=by
  cases q:B.drop j with
  |nil=>rfl
  |cons x r=>rw[q]at e;simp[h1]at e
 have h3:C.drop k=[]:=by
  cases q:C.drop k with
  |nil=>rfl
  |cons x r=>rw[q]at e;simp[h1,h2]at e
 have:=h [] (by rw[h1,h2,h3];exact .nil);simpa using this
theorem N7{α:Type}{A:List α}{i:Nat}{x:α}{r:List α}(h:A.drop i=x::r):A.drop (i+1)=r:=by
 rw[<-List.drop_drop,h];rfl
theorem a3n{β:Type}(p:β->Bool):∀{L:List β}{m:Nat}{y:β},(L.filter p)[m]?=some y->∃n,L[n]?=some y/\∀z,((L.filter p).set m z).filter p=(L.set n z).filter p
 |[],m,y,h=>by simp at h
 |l::L,m,y,h=>by
  by_cases e:p l=true
  .rw[List.filter_cons,if_pos e]at h;cases m with
   |zero =>
    refine⟨0,h,λz=>?_⟩;rw[List.filter_cons,if_pos e,List.set_cons_zero,List.set_cons_zero,List.filter_cons,List.filter_cons,List.filter_filter];simp
   |succ m =>
    obtain⟨n,h1,h2⟩:=a3n p (L:=L) h;refine⟨n+1,h1,λz=>?_⟩;rw[List.filter_cons,if_pos e,List.set_cons_succ,List.set_cons_succ,List.filter_cons,List.filter_cons,if_pos e,if_pos e,h2]
  .rw[List.filter_cons,if_neg e]at h;obtain⟨n,h1,h2⟩:=a3n p (L:=L) h;refine⟨n+1,h1,λz=>?_⟩;rw[List.filter_cons,if_neg e,List.set_cons_succ,List.filter_cons,if_neg e,h2]
theorem MgI.step{α:Type}{A B C O:List α}{Ls:List (List α)}{m:Nat}{x:α}{r:List α}(h:MgI A B C O Ls)(hm:Ls[m]?=some (x::r)):MgI A B C (O++[x]) ((Ls.set m r).filter λl=>!l.isEmpty):=by
 obtain⟨i,j,k,e,h⟩:=h.ex;have key:∀a b c:List α,Ls=[a,b,c].filter (λl=>!l.isEmpty)->(a=x::r/\(Ls.set m r).filter (λl=>!l.isEmpty)=[r,b,c].filter λl=>!l.isEmpty)∨(b=x::r/\(Ls.set m r).filter (λl=>!l.isEmpty)=[a,r,c].filter λl=>!l.isEmpty)∨(c=x::r/\(Ls.set m r).filter (λl=>!l.isEmpty)=[a,b,r].filter λl=>!l.isEmpty):=by
  intro a b c e;subst e;obtain⟨n,hn,hs⟩:=a3n _ hm;have hs:=hs r
  match n,hn with
  |0,hn=>exact .inl ⟨by simpa using hn,hs⟩
  |1,hn=>exact .inr (.inl ⟨by simpa using hn,hs⟩)
  |2,hn=>exact .inr (.inr ⟨by simpa using hn,hs⟩)
  |n+3,hn=>exact absurd hn (by simp)
 rcases key _ _ _ e with⟨q,e'⟩|⟨q,e'⟩|⟨q,e'⟩
 .refine⟨i+1,j,k,by rw[N7 q];exact e',λR hR=>?_⟩;rw[List.append_assoc];refine h ([x]++R) ?_;rw[q];rw[N7 q]at hR;exact .a hR
 .refine⟨i,j+1,k,by rw[N7 q];exact e',λR hR=>?_⟩;rw[List.append_assoc];refine h ([x]++R) ?_;rw[q];rw[N7 q]at hR;exact .b hR
 .refine⟨i,j,k+1,by rw[N7 q];exact e',λR hR=>?_⟩;rw[List.append_assoc];refine h ([x]++R) ?_;rw[q];rw[N7 q]at hR;exact .c hR
structure LsAt(H:Hp)(gs:List Addr)(Ls:List (List (List Str))):Prop where
 l:gs.length=Ls.length
 at_:∀(i:Nat) g,gs[i]?=some g->∃L,Ls[i]?=some L/\TxL H g L
theorem LsAt.keep{H H':Hp}{gs:List Addr}{Ls:List (List (List Str))}(h:LsAt H gs Ls)(k:∀g∈gs,∀o,H g=some o->H' g=some o):LsAt H' gs Ls:=⟨h.l,λi g e=>let ⟨L,a,b⟩:=h.at_ i g e;⟨L,a,k g (List.mem_of_getElem? e) _ b⟩⟩
theorem LsAt.snoc{H:Hp}{gs:List Addr}{Ls:List (List (List Str))}{g:Addr}{L:List (List Str)}(h:LsAt H gs Ls)(hg:TxL H g L):LsAt H (gs++[g]) (Ls++[L]):=by
 refine⟨by simp[h.l],λi u e=>?_⟩;rcases Nat.lt_or_ge i gs.length with hi|hi
 .rw[List.getElem?_append_left hi]at e;obtain⟨L',a,b⟩:=h.at_ i u e;exact⟨L',by rw[List.getElem?_append_left (by rw[<-h.l];exact hi)];exact a,b⟩
 .rw[List.getElem?_append_right hi]at e;have:i-gs.length=0:=by
   have:=(List.getElem?_eq_some_iff.mp e).1;simpa using this
  rw[this]at e;cases e;exact⟨L,by rw[List.getElem?_append_right (by rw[<-h.l];exact hi),<-h.l,this];rfl,hg⟩
def W7(Ls:List (List (List Str))):Nat:=(Ls.map List.length).sum
theorem a7p{Ls:List (List (List Str))}{m:Nat}{x:List Str}{r:List (List Str)}(h:Ls[m]?=some (x::r)):W7 (Ls.set m r)+1=W7 Ls:=by
 induction Ls generalizing m with
 |nil=>cases h
 |cons l Ls ih =>
  cases m with
  |zero=>cases h;simp[W7];omega
  |succ m =>
   have:=ih h;simp only[W7,List.set_cons_succ,List.map_cons,List.sum_cons]at this⊢;omega
theorem a1h(Ls:List (List (List Str))):W7 (Ls.filter λl=>!l.isEmpty)=W7 Ls:=by
 induction Ls with
 |nil=>rfl
 |cons l Ls ih =>
  rw[List.filter_cons];cases l with
  |nil=>simp[W7]at ih⊢;exact ih
  |cons x r=>simp[W7]at ih⊢;exact ih
theorem EqV.empty{K:PySem.W.Frag}{H:Hp}{a b:Addr}{xs:List V}(ha:SqL K H a xs)(hb:SqL K H b []):EqV K H 1 (.ref a) (.ref b) (xs.length==0):=by
 have:=EqV.lst (n:=0) (λ_=>true) ha hb λj x y _ hy=>by cases hy
 simpa using this
section
variable {P:Program}{w:World}{K:PySem.W.Frag}{mg:Str->Option Value}{base:Heap}
theorem a5x{src:List (Option Nat)}{σ caps:L2.St}{Q:VK}{H:Hp}{l:Addr}{gs:List Addr}{Ls:List (List (List Str))}(hl:H l=some (.lst (gs.map V.ref)))(hL:LsAt H gs Ls)(hn:gs.length<=1000)(hsrc:B8 src σ=none::caps)(te:TE)
  (R:Hp->Nat->List Addr->Prop) (h0:R H 0 [])
  (hte:∀(i:Nat) g L zs H1 (N:VK),gs[i]?=some g->Ls[i]?=some L->TxL H1 g L->L≠[]->Same H H1->R H1 i zs->(∀y H2,Same H1 H2->TxL H2 y L->R H2 (i+1) (zs++[y])->N (.ref y) H2)->te (some (.ref g)::caps) H1 N)
  (hS:∀H1 i zs,R H1 i zs->R H1 (i+1) zs) (hR:∀H1 H2 i zs,Same H1 H2->R H1 i zs->R H2 i zs)
  (hd:∀H1 p zs,Same H H1->R H1 gs.length zs->LsAt H1 zs (Ls.filter λl=>!l.isEmpty)->H1 p=none->Q (.ref p) (upd H1 p (.lst (zs.map V.ref)))) :
  L9 src (A9 0) (J7 (tOp (a1W K true) (Y6 0) (a7g a0l))) te σ Q (Itl K l) H:=by
 have hz:(1000:Nat)<=sizeLine:=by rw[sizeLine_eq];decide
 refine W4 (K:=K) (a:=l) (xs:=gs.map V.ref) (by rw[List.length_map];omega) (λi vs H'=>∃zs,vs=zs.map V.ref/\Same H H'/\R H' i zs/\LsAt H' zs ((Ls.take i).filter λl=>!l.isEmpty)/\zs.length<=i) ⟨[],rfl,Same.refl H,h0,⟨rfl,λi g e=>(by cases e)⟩,Nat.le_refl _⟩ (λi vs H' _ ⟨zs,e,s,_,_,hzl⟩=>⟨SqL.of (s _ _ hl),by rw[e,List.length_map];exact hzl⟩) ?_ ?_
 .rintro i v vs H1 hv ⟨zs,rfl,s1,r1,L1,hzl⟩;rw[List.getElem?_map]at hv;obtain⟨g,hg,rfl⟩:=Option.map_eq_some_iff.mp hv;obtain⟨L,hLi,hT⟩:=hL.at_ i g hg;show Sub _ ((B8 src σ).set 0 (some (.ref g)))/\_;rw[hsrc];have hT1:TxL H1 g L:=s1 _ _ hT;refine⟨Sub.one,_,rfl,Nat.zero_le _,λe he=>?_⟩;have s2:=(Same.refl H1).upd (o:=.lst []) he;have hE:EqV K (upd H1 e (.lst [])) 1 (.ref g) (.ref e) (((L.map (Str.join bk)).map V.str).length==0):=EqV.empty (SqL.of (s2 _ _ hT1)) (SqL.of A0);generalize upd H1 e (.lst [])=H2 at s2 hE;refine⟨1,_,by decide,hE,⟨_,_,rfl,rfl⟩,_,rfl,?_⟩;rw[if_pos rfl];have hst:∀b,L.isEmpty=b->(Ls.take (i+1)).filter (λl=>!l.isEmpty)=(Ls.take i).filter (λl=>!l.isEmpty)++if b=true then[] else[L]:=λb hb=>by
   rw[List.take_add_one,hLi,List.filter_append];congr 1;show[L].filter _=_;rw[List.filter_cons,hb];cases b<;>rfl
  have hL2:LsAt H2 zs ((Ls.take i).filter λl=>!l.isEmpty):=L1.keep λg _ o h=>s2 _ _ h;cases L with
  |nil =>
   show if (!(0==0))=true then _ else _
   refine L6 ⟨zs,rfl,s1.trans s2,hS _ _ _ (hR _ _ _ _ s2 r1),?_,by omega⟩;rw[hst true rfl];simpa using hL2
  |cons x r =>
   rw[show(!((((x::r).map (Str.join bk)).map V.str).length==0))=true by simp];refine R5 (hte i g (x::r) zs H2 _ hg hLi (s2 _ _ hT1) (by simp) (s1.trans s2) (hR _ _ _ _ s2 r1) λy H3 s3 t3 r3=>⟨zs++[y],by simp,(s1.trans s2).trans s3,r3,?_,by simp;omega⟩);rw[hst false rfl];exact(hL2.keep λg _ o h=>s3 _ _ h).snoc t3
 .rintro vs H1 ⟨zs,rfl,s1,r1,L1,hzl⟩ p hp;rw[List.length_map]at r1;rw[List.length_map,hL.l,List.take_length]at L1;exact hd H1 p zs s1 r1 L1 hp
end
structure MgW(H0 H:Hp)(a b gl lp:Addr)(gs:List Addr)(A B C O:List (List Str))(Ls:List (List (List Str))):Prop where
 hg:H gl=some (.lst (gs.map V.ref))
 hL:LsAt H gs Ls
 nd:gs.Nodup
 fr:∀g∈gs,H0 g=none/\g∉[a,b]/\g≠lp
 hl:TxL H lp O
 fl:H0 lp=none
 ql:lp∉[a,b]
 qg:gl∉[a,b]
 I:MgI A B C O Ls
 ne:∀L∈Ls,L≠[]
 P:PotAt H a b
 off:Off [a,b] H0 H
 N:W7 Ls+O.length<=1000
section
variable {P:Program}{w:World}{K:PySem.W.Frag}{mg:Str->Option Value}{base:Heap}
def b4e:Sp:=λvs H Q _=>∃(a b r x y z:Addr) (A B C:List (List Str)),vs=[.ref a,.ref r]/\PotAt H a b/\H r=some (.lst [.ref x,.ref y,.ref z])/\TxL H x A/\TxL H y B/\TxL H z C/\A.length+B.length+C.length<=1000 /\
 ∀p O H',Mg A B C O->TxL H' p O->H p=none->PotAt H' a b->Off [a,b] H H'->Q (.ref p) H'
theorem sc__law_mingled:FnScope ["_law_pot_here","_law_rows","_law_left","_law_lines"] ["_law_pot_here","_law_rows"] (A3 K0):=⟨rfl,rfl,rfl,by decide +kernel,rfl,by decide +kernel,by decide +kernel⟩
theorem a4K(F:FunAt K mg "_law_mingled" K0 ["_law_pot_here","_law_rows"])(T:Tx mg)(O__law_next:Ok P w K mg base "_law_next" 1 ["_law_pot_here","_law_many"] Q8):Ok P w K mg base "_law_mingled" 2 ["_law_pot_here","_law_rows"] b4e:=by
 refine F.okJ sc__law_mingled (λvs H Q E h=>?_) (λcdv f A outer s H vs Q E hr h=>?_)
 .obtain⟨a,b,r,x,y,z,A,B,C,rfl,_⟩:=h;rfl
 .obtain⟨a,b,r,x,y,z,A',B,C,rfl,hP,hr',hx,hy,hzz,hlen,k⟩:=h;have hz:(100000:Nat)<=sizeLine:=by rw[sizeLine_eq];decide
  have hu:=hr.u60;refine⟨_,(A1 (O9 (i:=2) sc__law_mingled.nd rfl (Or.inl rfl) (N:=["_law_row"]) (src:=[none]) (N3 K (jv 1)) (by show D0 _ _=true;rfl) (by rfl) (by rfl)
 (λ_ _ _ _ _=>(A8 (i:=0) (show(["_law_row"]:List Str).Nodup by decide +kernel) rfl (Or.inl rfl))) (λ_ _ _ _ _=>(a1v (a1u K hu (jv 0) (C5 jaN)))) (λ_ _ _ _ _=>(a5A K rfl T.b_list (jaC (jv 0) jaN))))
 (A1 (B3 (i:=3) sc__law_mingled.nd rfl (Or.inl rfl) (C5 jaN))
 (A1 (a3Z (a1u K hu (jv 2) (C5 jaN))
 (A1 (C4 (C8 K (jv 3) (jaC (Z8 K (J5 K (jv 2) (A7 O__law_next (hr.mono (by omega)) rfl (jaC (jv 0) (jaC (G0 K rfl T.b_len (jaC (jv 2) jaN)) jaN)))) (jaC A2 jaN)) jaN)))
 (A5 (O9 (i:=2) sc__law_mingled.nd rfl (Or.inl rfl) (N:=["_law_row"]) (src:=[none]) (N3 K (jv 2)) (by show D0 _ _=true;rfl) (by rfl) (by rfl)
 (λ_ _ _ _ _=>(A8 (i:=0) (show(["_law_row"]:List Str).Nodup by decide +kernel) rfl (Or.inl rfl))) (λ_ _ _ _ _=>(a1v (a1u K hu (jv 0) (C5 jaN)))) (λ_ _ _ _ _=>(jv 0))))))
 (A5 (B0 (jv 3)))))),?_⟩
  refine⟨_,rfl,r,rfl,⟨_,SqL.of hr'⟩,?_⟩;have hL0:LsAt H [x,y,z] [A',B,C]:=⟨rfl,λi g e=>by
   match i,e with
   |0,e=>cases e;exact⟨A',rfl,hx⟩
   |1,e=>cases e;exact⟨B,rfl,hy⟩
   |2,e=>cases e;exact⟨C,rfl,hzz⟩⟩
  refine a5x (l:=r) (gs:=[x,y,z]) (caps:=[]) hr' hL0 (by show 3<=1000;decide) rfl _ (λH' _ zs=>zs.Nodup/\∀z∈zs,H z=none/\∃o,H' z=some o) ⟨List.nodup_nil,λz hz=>(nomatch hz)⟩ ?_ (λ_ _ _ h=>h) (λH1 H2 i zs s12 ⟨r2,r3⟩=>⟨r2,λz hz=>⟨(r3 z hz).1,let ⟨o,ho⟩:=(r3 z hz).2;⟨o,s12 _ _ ho⟩⟩⟩) ?_
  .rintro i g L zs H1 N hg hL hT hne s1 ⟨r2,r3⟩ q;refine⟨_,rfl,g,_,rfl,.inl (SqL.of hT),λl hl=>?_⟩;have s2:=(Same.refl H1).upd (o:=.lst ((L.map (Str.join bk)).map V.str)) hl;refine q l _ s2 A0 ⟨?_,λz hz=>?_⟩
   .rw[List.nodup_append];refine⟨r2,by simp,λu hu v hv=>?_⟩;rw[List.mem_singleton.mp hv];obtain⟨_,o,ho⟩:=r3 u hu;exact A4 ho hl
   .rcases List.mem_append.mp hz with q|q
    .obtain⟨h1,o,h2⟩:=r3 z q;exact⟨h1,o,s2 _ _ h2⟩
    .rw[List.mem_singleton.mp q];exact⟨s1.free hl,_,A0⟩
  .rintro H1 gl gs s1 ⟨r2,r3⟩ L1 hgl;have s2:=s1.upd (o:=.lst (gs.map V.ref)) hgl;have k2:=(Same.refl H1).upd (o:=.lst (gs.map V.ref)) hgl;have e2:upd H1 gl (.lst (gs.map V.ref)) gl=some (.lst (gs.map V.ref)):=A0;have L2':LsAt (upd H1 gl (.lst (gs.map V.ref))) gs _:=L1.keep λg _ o h=>k2 _ _ h;have P2:=hP.same s2;have qg:gl∉[a,b]:=C1 (hP.same s1) hgl;generalize upd H1 gl (.lst (gs.map V.ref))=H2 at s2 e2 L2' P2 k2;dsimp only[A9];refine⟨Nat.zero_le _,λlp hlp=>?_⟩;have s3:=s2.upd (o:=.lst []) hlp;have k3:=(Same.refl H2).upd (o:=.lst []) hlp;have W0:MgW H (upd H2 lp (.lst [])) a b gl lp gs A' B C [] ([A',B,C].filter λl=>!l.isEmpty):=by
    refine⟨k3 _ _ e2,L2'.keep λg _ o h=>k3 _ _ h,r2,λg hg=>?_,A0,s2.free hlp,C1 P2 hlp,qg,MgI.start A' B C,λL hL=>?_,hP.same s3,s3.off,?_⟩
    .obtain⟨h1,o,h2⟩:=r3 g hg;refine⟨h1,λz=>?_,A4 (k2 _ _ h2) hlp⟩;obtain⟨_,cs,l,t,kk,p1,p2⟩:=hP;simp only[List.mem_cons,List.not_mem_nil,or_false]at z;rcases z with z|z
     .rw[z,p1]at h1;cases h1
     .rw[z,p2]at h1;cases h1
    .have:=(List.mem_filter.mp hL).2;intro z;rw[z]at this;cases this
    .rw[a1h];simp[W7];omega
   generalize upd H2 lp (.lst [])=H3 at W0;clear s1 s2 s3 k2 k3 e2 L2' P2 L1 r2 r3 hgl hlp;dsimp only[A9];refine S2 (λσ H'=>∃gl O,σ=[some (.ref a),some (.ref r),some (.ref gl),some (.ref lp)]/\MgW H H' a b gl lp [] A' B C O []) ?fin λfin=>?_
   case fin =>
    rintro σ H' ⟨gl,O,rfl,W⟩;exact⟨_,rfl,k lp O H' W.I.done W.hl W.fl W.P W.off⟩
   refine⟨λm σ H'=>∃gl gs O Ls,m=W7 Ls/\σ=[some (.ref a),some (.ref r),some (.ref gl),some (.ref lp)]/\MgW H H' a b gl lp gs A' B C O Ls,⟨_,gl,gs,[],_,rfl,rfl,W0⟩,?_⟩;rintro m σ H4 ⟨gl,gs,O,Ls,rfl,rfl,W⟩;refine⟨_,rfl,Nat.zero_le _,λe he=>?_⟩;have s5:=(Same.refl H4).upd (o:=.lst []) he;have hE:EqV K (upd H4 e (.lst [])) 1 (.ref gl) (.ref e) ((gs.map V.ref).length==0):=EqV.empty (SqL.of (s5 _ _ W.hg)) (SqL.of A0);have W5:MgW H (upd H4 e (.lst [])) a b gl lp gs A' B C O Ls:=⟨s5 _ _ W.hg,W.hL.keep λg _ o h=>s5 _ _ h,W.nd,W.fr,s5 _ _ W.hl,W.fl,W.ql,W.qg,W.I,W.ne,W.P.same s5,W.off.trans s5.off,W.N⟩;generalize upd H4 e (.lst [])=H5 at hE W5;clear W s5 he;refine⟨1,_,by decide,hE,⟨_,_,rfl,rfl⟩,_,rfl,?_⟩;rw[if_pos rfl,List.length_map];cases gs with
   |nil =>
    have hLs:Ls=[]:=List.length_eq_zero_iff.mp W5.hL.l.symm;subst hLs;exact L6 (fin _ _ ⟨gl,O,rfl,W5⟩)
   |cons g0 gs' =>
    rw[show(!((g0::gs').length==0))=true by simp];refine R5 ⟨λσ' H'=>∃gl gs O Ls',W7 Ls'<W7 Ls/\σ'=[some (.ref a),some (.ref r),some (.ref gl),some (.ref lp)]/\MgW H H' a b gl lp gs A' B C O Ls',λσ' H' ⟨gl,gs,O,Ls',h1,h2,h3⟩=>⟨W7 Ls',h1,gl,gs,O,Ls',rfl,h2,h3⟩,?_⟩;generalize hgs:g0::gs'=gs at W5;have hgl:0<gs.length:=by rw[<-hgs];simp
    have hLl:=W5.hL.l;have hLs:∀(i:Nat) L,Ls[i]?=some L->1<=L.length:=λi L h=>List.length_pos_iff.mpr (W5.ne L (List.mem_of_getElem? h));have hsl:gs.length<=1000:=by
     have h1:∀M:List (List (List Str)),(∀L∈M,L≠[])->M.length<=W7 M:=λM=>by
      induction M with
      |nil=>intro _;exact Nat.le_refl _
      |cons l M ih =>
       intro h;have:=ih λL hL=>h L (List.mem_cons_of_mem _ hL);have h2:=List.length_pos_iff.mpr (h l List.mem_cons_self);simp only[W7,List.map_cons,List.sum_cons,List.length_cons]at this⊢;omega
     have:=h1 Ls W5.ne;have:=W5.N;omega
    refine⟨_,rfl,.inl ⟨rfl,_,SqL.of W5.hl⟩,_,rfl,_,rfl,_,rfl,gl,_,rfl,.inl (SqL.of W5.hg),a,b,_,rfl,W5.P,by rw[List.length_map];omega,Int.lt_of_le_of_lt (show((gs.map V.ref).length:Int)<=1000 by rw[List.length_map];omega) (by decide +kernel),λr6 H6 h60 h61 P6 f6=>?_⟩;rw[List.length_map]at h61;obtain⟨mm,rfl⟩:∃g:Nat,r6=g:=⟨r6.toNat,by omega⟩;have hmm:mm<gs.length:=by omega
    have hgm:=List.getElem?_eq_getElem hmm;generalize gs[mm]=g at hgm;obtain⟨L,hLm,hTg⟩:=W5.hL.at_ mm g hgm;obtain⟨x1,rr,rfl⟩:∃x r,L=x::r:=by
     cases L with
     |nil=>exact absurd rfl (W5.ne _ (List.mem_of_getElem? hLm))
     |cons x r=>exact⟨x,r,rfl⟩
    obtain⟨fg,qgg,nglp⟩:=W5.fr g (List.mem_of_getElem? hgm);have nggl:g≠gl:=λz=>by
     have h1:=W5.hg;rw[<-z,show H5 g=some (.lst (((x1::rr).map (Str.join bk)).map V.str))from hTg,<-hgs]at h1;injection h1 with h1
     injection h1 with h1
     injection h1 with h1
     cases h1
    have g6:=f6 _ _ W5.qg W5.hg;have t6:TxL H6 g (x1::rr):=f6 _ _ qgg hTg;have l6:TxL H6 lp O:=f6 _ _ W5.ql W5.hl;have hL6:LsAt H6 gs Ls:=W5.hL.keep λg hg o h=>f6 _ _ (W5.fr g hg).2.1 h;have o6:=W5.off.trans f6;refine⟨gl,_,_,_,rfl,rfl,SqL.of g6,(show atI (gs.map V.ref) (mm:Int)=some (V.ref g)from L3 (by rw[List.getElem?_map,hgm];rfl)),.inl ⟨rfl,_,SqL.of t6⟩,g,_,0,0,_,rfl,rfl,t6,by decide,by decide,by simp[seqIndex?],rfl,?_⟩;have e7g:upd H6 g (.lst ((((x1::rr).map (Str.join bk)).map V.str).eraseIdx 0)) g=some (.lst ((rr.map (Str.join bk)).map V.str)):=by rw[A0];rfl
    have k7:∀{b':Addr}{o':HO},H6 b'=some o'->b'≠g->upd H6 g (.lst ((((x1::rr).map (Str.join bk)).map V.str).eraseIdx 0)) b'=some o':=λh hne=>by rw[A6 hne];exact h
    have P7:=J0 (o:=.lst ((((x1::rr).map (Str.join bk)).map V.str).eraseIdx 0)) P6 qgg;have o7:=U5 (p:=g) (o:=.lst ((((x1::rr).map (Str.join bk)).map V.str).eraseIdx 0)) o6 fg;generalize upd H6 g (.lst ((((x1::rr).map (Str.join bk)).map V.str).eraseIdx 0))=H7 at e7g k7 P7 o7;have l7:TxL H7 lp O:=k7 l6 nglp.symm;refine⟨lp,_,_,rfl,rfl,l7,by rw[List.length_map,List.length_map];have:=W5.N;omega,?_⟩;have e8l:upd H7 lp (.lst ((O.map (Str.join bk)).map V.str++[V.str (Str.join bk x1)])) lp=some (.lst (((O++[x1]).map (Str.join bk)).map V.str)):=by rw[A0];simp
    have k8:∀{b':Addr}{o':HO},H7 b'=some o'->b'≠lp->upd H7 lp (.lst ((O.map (Str.join bk)).map V.str++[V.str (Str.join bk x1)])) b'=some o':=λh hne=>by rw[A6 hne];exact h
    have P8:=J0 (o:=.lst ((O.map (Str.join bk)).map V.str++[V.str (Str.join bk x1)])) P7 W5.ql;have o8:=U5 (p:=lp) (o:=.lst ((O.map (Str.join bk)).map V.str++[V.str (Str.join bk x1)])) o7 W5.fl;generalize upd H7 lp (.lst ((O.map (Str.join bk)).map V.str++[V.str (Str.join bk x1)]))=H8 at e8l k8 P8 o8;have nglp':gl≠lp:=λz=>by
     have h1:=g6;rw[z,show H6 lp=some (.lst ((O.map (Str.join bk)).map V.str))from l6,<-hgs]at h1;injection h1 with h1
     injection h1 with h1
     cases O with
     |nil=>cases h1
     |cons o O=>injection h1 with h1;cases h1
    have g8:=k8 (k7 g6 nggl.symm) nglp';have hp:=List.pairwise_iff_getElem.mp W5.nd;have hL8:LsAt H8 gs (Ls.set mm rr):=by
     refine⟨by rw[List.length_set];exact hLl,λi u hu=>?_⟩;by_cases e:i=mm
     .subst e;rw[hgm]at hu;cases hu;exact⟨rr,by rw[List.getElem?_set,if_pos rfl,if_pos (by omega)],k8 e7g nglp⟩
     .obtain⟨L',h1,h2⟩:=hL6.at_ i u hu;refine⟨L',by rw[List.getElem?_set,if_neg λz=>e z.symm];exact h1,k8 (k7 h2 λz=>?_) (W5.fr u (List.mem_of_getElem? hu)).2.2⟩;obtain⟨h3,h4⟩:=List.getElem?_eq_some_iff.mp hu;obtain⟨h5,h6⟩:=List.getElem?_eq_some_iff.mp hgm;rcases Nat.lt_or_gt_of_ne e with q|q
      .exact hp _ _ h3 h5 q (by rw[h4,h6,z])
      .exact hp _ _ h5 h3 q (by rw[h4,h6,z])
    dsimp only;refine⟨_,rfl,gl,rfl,⟨_,SqL.of g8⟩,?_⟩;refine a5x (l:=gl) (gs:=gs) (Ls:=Ls.set mm rr) (caps:=[]) g8 hL8 hsl rfl _ (λH' i zs=>zs.Sublist (gs.take i)) (by simp) ?_ (λH1 i zs h=>h.trans (List.take_sublist_take_left (by omega))) (λ_ _ _ _ _ h=>h) ?_
    .rintro i g' L' zs H9 N hg' hL' hT' hne' s9 hsub q;refine⟨_,rfl,q g' H9 (Same.refl _) hT' ?_⟩;rw[List.take_add_one,hg'];exact hsub.append (List.Sublist.refl _)
    .rintro H9 p9 zs s9 hsub hLz hp9;rw[List.take_length]at hsub;have s10:=s9.upd (o:=.lst (zs.map V.ref)) hp9;have k10:=(Same.refl H9).upd (o:=.lst (zs.map V.ref)) hp9;dsimp only[A9];have hsx:=a7p hLm;refine⟨p9,zs,O++[x1],_,?_,rfl,⟨A0,hLz.keep λg _ o h=>k10 _ _ h,W5.nd.sublist hsub,λg hg=>W5.fr g (hsub.mem hg),s10 _ _ e8l,W5.fl,W5.ql,C1 (P8.same s9) hp9,W5.I.step hLm,λL hL=>?_,P8.same s10,o8.trans s10.off,?_⟩⟩
     .rw[a1h];omega
     .have:=(List.mem_filter.mp hL).2;intro z;rw[z]at this;cases this
     .rw[a1h,List.length_append];have:=W5.N;simp only[List.length_singleton];omega
end
end K46
namespace L2
open PySem PySem.Spec PyProof.Rows
section
variable {prog:Program}{w:World}{A:Around}{E:Value->Shared->Prop}{s:Shared}
theorem slot_iter_list:Slot "list" "__iter__" "list.__iter__":=PySem.slot_list_iter
theorem a2x{it t:Addr}{items:Array Value}(hne:t≠it):∀(n i:Nat) (s:Shared) (Q:List Value->Shared->Prop),s.heap.IsListIter it t i->s.heap.IsList t items->i+n<=items.size ->
  (∀h',h'.IsListIter it t (i+n)->Heap.SameBut it s.heap h'->Q ((items.toList.drop i).take n) {s with heap:=h'})->wpAny (model prog w) A (draw (.ref it) n) Q E s
 |0,i,s,Q,hit,_,_,hQ=>by
  show wpAny _ _ (pure []) Q E s;exact wpAny_pure (by simpa using hQ s.heap hit (Heap.SameBut.refl ..))
 |n+1,i,s,Q,hit,ht,hle,hQ=>by
  have hlt:i<items.size:=by omega
  show wpAny _ _ (pyNext (.ref it)>>=_) Q E s;refine wpAny_bind (wpAny_pyNext_list_item hit ht (x:=items[i]) (by simp[hlt]) λh₁ hit₁ hs₁=>?_);refine wpAny_bind (wpAny_holding (a2x hne n (i+1) _ _ hit₁ (ht.extBut hs₁.extBut hne) (by omega) λh₂ hit₂ hs₂=>wpAny_pure ?_));have hd:items.toList.drop i=items[i]::items.toList.drop (i+1):=by simp[List.drop_eq_getElem_cons,hlt]
  have:=hQ h₂ (by rw[show i+(n+1)=i+1+n by omega];exact hit₂) (hs₁.trans hs₂);rw[hd,List.take_succ_cons]at this;exact this
theorem a0k{t:Addr}{items:Array Value}{Q:List Value->Shared->Prop}(hh:A.handled=none)(ht:s.heap.IsList t items)
  (hQ:∀h',Heap.ExtBut s.heap.objs.size s.heap h'->Q items.toList {s with heap:=h'}):wpAny (model prog w) A (unpackItems (.ref t) items.size none) Q E s:=by
 have hlt:t≠s.heap.objs.size:=by obtain⟨o,ho,_⟩:=ht;exact Nat.ne_of_lt (Heap.lt_size ho)
 unfold unpackItems;refine wpAny_bind ?_
 .unfold notIterableAtAll;refine wpAny_bind (wpAny_specialOf ht.typeIs slot_iter_list.lookup ?_);refine wpAny_pure ?_;simp only[Bool.false_eq_true,if_false];refine wpAny_bind (wpAny_holding (wpAny_pyIter_list ht ?_));refine wpAny_bind (wpAny_holding (a2x hlt items.size 0 _ _ ⟨_,Heap.get?_push_size _ rfl,rfl,rfl⟩ (ht.push _) (by omega) λh₁ hit₁ hs₁=>?_));have hall:List.take items.size (List.drop 0 items.toList)=items.toList:=by
   rw[List.drop_zero];exact List.take_of_length_le (by simp)
  rw[hall];rw[if_neg (by simp)];have ht₁:h₁.IsList t items:=(ht.push _).extBut hs₁.extBut hlt;refine wpAny_bind (wpAny_holding (wpAny_pyNext_list_end hh hit₁ ht₁ (by simp) λh₂ he₂=>?_));simp only[Option.isSome_none,Bool.false_eq_true,if_false];refine wpAny_pure (hQ h₂ λb o hb e=>he₂ b o hb (hs₁.extBut b o hb (Heap.get?_push_of_some _ e)))
end
def b4L(K:PySem.W.Frag)(n:Nat)(t:TGs):TG:=λv σ H Q=>∃a xs,v=.ref a/\SqL K H a xs/\xs.length=n/\t xs σ H Q
section
variable {X:Cx}{pos:Pos}
theorem b2j{es:List Expr}{k:Nat}{t:TGs}{n:Nat}(hc:X.calm=true)(h:PGs X es t)
  (hn:(assignEach es X.env).length=n:=by rfl) (hst:(assignEach es X.env).findIdx? (·.1)=none:=by rfl):PG X (.Tuple es k pos) (b4L X.K n t):=by
 intro pins s σ H v u Q I r hw;obtain⟨a,xs,e1,hq,hl,hw⟩:=hw;subst e1;cases r;obtain⟨its,rv,ht,hz⟩:=I.list hq;have hlen:(assignEach es X.env).length=its.toArray.size:=by simp[hn,<-hl,rv.length]
 rw[assign_Tuple];refine wpAny_bind (wpAny_standAt ?_);unfold unpack;rw[hlen,hst];refine wpAny_bind (wpAny_holding (a0k (I.ok.hd hc) ht.isList λh' hx=>?_));have I1:Inv X pins σ H {s with heap:=h'}:=I.kept (t':=s.toks) λb o e=>hx b o (Nat.ne_of_lt (Heap.lt_size e)) e;exact h pins _ σ H xs _ Q I1 (by simpa using rv) hw
end
section
variable {X:Cx}{es:List Expr}{pos:Pos}
theorem b3b(K:PySem.W.Frag)(n:Nat){k:Nat}{u:TGs}(h:JGs X es u)(hc:X.calm=true:=by rfl)(hK:X.K=K:=by rfl)(hn:(assignEach es X.env).length=n:=by rfl)(hst:(assignEach es X.env).findIdx? (·.1)=none:=by rfl):JG X (.Tuple es k pos) (b4L K n u):=by
 subst hK;exact⟨b2j hc h.h hn hst⟩
end
end L2
namespace K46
open PySem PySem.Spec PyProof.Rows L2
theorem a7l{ns:List Str}(hn:Nms ns){ts us:List (List Str)}{ps qs:List (Nat×Int)}(h:Tms ns ts ps)(g:Tms ns us qs)(h8:ts.length<=60)(g8:us.length<=60){row:List Int}{s:Int}(hl:row.length=ns.length)(hb:Bds row)(s1 : -topN<=s)(s2:s<=topN)
  (hj:∀j,j<ns.length->D9 ps j-D9 qs j=row.getD j 0) (he:D9 ps ns.length-D9 qs ns.length = -s):SumL ns (wd "sum" :: (B5 ts++wd "=" :: B5 us)) (row,s):=by
 have tw:∀t∈ts,(∀x∈t,Wg x)/\t.length<=2:=λt ht=>by obtain⟨p,_,q⟩:=h.all t ht;exact q.wg hn
 have uw:∀t∈us,(∀x∈t,Wg x)/\t.length<=2:=λt ht=>by obtain⟨p,_,q⟩:=g.all t ht;exact q.wg hn
 obtain⟨w1,w2,_⟩:=T4 tw;obtain⟨v1,v2,_⟩:=T4 uw;refine⟨⟨_,rfl,?_⟩,a2g (by simp) (by rw[List.length_cons,List.length_append,List.length_cons];omega) λx hx=>?_⟩
 .rw[a7k hn h g];have hz:List.zipWith (λa b:Int=>a-b) (ps.foldl E4 (List.replicate (ns.length+1) 0)) (qs.foldl E4 (List.replicate (ns.length+1) 0))=row++[-s]:=by
   refine List.ext_getElem (by rw[List.length_zipWith,I9,I9];simp[hl]) λj h3 h4=>?_;rw[List.length_zipWith,I9,I9,List.length_replicate,Nat.min_self]at h3;have gg:∀ps:List (Nat×Int),∀h:j<(ps.foldl E4 (List.replicate (ns.length+1) 0)).length,(ps.foldl E4 (List.replicate (ns.length+1) (0:Int)))[j]=D9 ps j:=λps h=>by
    have:=a5P ps (List.replicate (ns.length+1) 0) j (by rw[List.length_replicate];exact h3);rw[List.getD_eq_getElem?_getD,List.getElem?_eq_getElem h]at this;rw[show((List.replicate (ns.length+1) (0:Int)).getD j 0)=0 by rw[List.getD_eq_getElem?_getD];simp[h3]]at this;simpa using this
   rw[List.getElem_zipWith,gg,gg];by_cases q:j<row.length
   .rw[List.getElem_append_left q,hj j (by omega),List.getD_eq_getElem?_getD,List.getElem?_eq_getElem q];rfl
   .have hjn:j=ns.length:=by omega
    rw[List.getElem_append_right (by omega)];simp only[List.getElem_singleton];rw[hjn];exact he
  unfold a8T;rw[hz,if_pos];intro x hx;rcases List.mem_append.mp hx with z|z
  .exact hb x z
  .rw[List.mem_singleton.mp z];unfold topN at *;omega
 .rcases List.mem_cons.mp hx with rfl|z
  .exact wg_lit.2.1
  .rcases List.mem_append.mp z with z|z
   .exact w1 x z
   .rcases List.mem_cons.mp z with rfl|z
    .exact wg_lit.2.2.2.2.2.1
    .exact v1 x z
theorem G1(p:Nat×Int)(ps:List (Nat×Int))(j:Nat):D9 (p::ps) j=(if p.1=j then p.2 else 0)+D9 ps j:=by
 unfold D9;rw[List.filter_cons];by_cases e:p.1=j
 .rw[if_pos (decide_eq_true e),if_pos e,List.map_cons,List.sum_cons]
 .rw[if_neg (by simpa using e),if_neg e];omega
theorem Y4(j:Nat):D9 [] j=0:=rfl
theorem Tms.snoc{ns:List Str}{ts:List (List Str)}{ps:List (Nat×Int)}{t:List Str}{p:Nat×Int}(h:Tms ns ts ps)(g:Tm ns t p):Tms ns (ts++[t]) (ps++[p]):=h.app (.cons g .nil)
theorem V5{ps qs:List (Nat×Int)}(h:ps.Perm qs)(j:Nat):D9 ps j=D9 qs j:=by
 induction h with
 |nil=>rfl
 |cons x _ ih=>rw[G1,G1,ih]
 |swap x y l=>rw[G1,G1,G1,G1];omega
 |trans _ _ ih1 ih2=>exact ih1.trans ih2
theorem Tms.perm{ns:List Str}{ts ts':List (List Str)}{ps:List (Nat×Int)}(h:Tms ns ts ps)(p:ts.Perm ts'):∃ps',Tms ns ts' ps'/\ps.Perm ps':=by
 induction p generalizing ps with
 |nil=>exact⟨ps,h,.refl _⟩
 |cons x _ ih =>
  cases h with
  |cons h r =>
   obtain⟨ps',h1,h2⟩:=ih r;exact⟨_::ps',.cons h h1,h2.cons _⟩
 |swap x y l =>
  cases h with
  |cons h r =>
   cases r with
   |cons h' r=>exact⟨_,.cons h' (.cons h r),.swap _ _ _⟩
 |trans _ _ ih1 ih2 =>
  obtain⟨ps',h1,h2⟩:=ih1 h;obtain⟨ps'',h3,h4⟩:=ih2 h1;exact⟨ps'',h3,h2.trans h4⟩
def PlN(ns:List Str)(pl:Nat)(nm:Str):Prop:=(ns[pl]?=some nm/\nm≠wd "")∨(pl=ns.length/\nm=wd "")
section
variable {P:Program}{w:World}{K:PySem.W.Frag}{mg:Str->Option Value}{base:Heap}
def a4C:Sp:=λvs H Q _=>∃(a b:Addr) (ns:List Str) (pl:Nat) (nm:Str) (x:Int),vs=[.ref a,.int x,.str nm]/\PotAt H a b/\Nms ns/\PlN ns pl nm/\0<x/\x<=topN/\∀u H',Tm ns u (pl,x)->PotAt H' a b->Off [a,b] H H'->Q (.str (Str.join bk u)) H'
theorem a2Q:FnScope ["_law_pot_here","_law_number","_law_name"] ["_law_pot_here","_law_number","_law_name"] (A3 O5):=⟨rfl,rfl,rfl,by decide +kernel,rfl,by decide +kernel,by decide +kernel⟩
theorem b0c(F:FunAt K mg "_law_term" O5 ["_law_pot_here","_law_number","_law_name"])(T:Tx mg)(O__law_next:Ok P w K mg base "_law_next" 1 ["_law_pot_here","_law_many"] Q8):Ok P w K mg base "_law_term" 2 ["_law_pot_here","_law_number","_law_name"] a4C:=by
 refine F.okJ a2Q (λvs H Q E h=>?_) (λcdv f A outer s H vs Q E hr h=>?_)
 .obtain⟨a,b,ns,pl,nm,x,rfl,_⟩:=h;rfl
 .obtain⟨a,b,ns,pl,nm,x,rfl,hP,hnm,hpl,h0,h1,k⟩:=h;have hz:(100000:Nat)<=sizeLine:=by rw[sizeLine_eq];decide
  have hxn:x=((x.toNat:Nat):Int):=by omega
  have hlt:x.toNat<10 ^ 570:=Nat.lt_of_le_of_lt (show x.toNat<=1000000000000 by unfold topN at h1;omega) (by decide +kernel);have hf:=(T5 h1).1;refine⟨_,(A1 (C0 (N9 (jv 2) B2)
 (A5 (B0 (a0U rfl T.b_str (jaC (jv 1) jaN))))
 B6)
 (A1 (C0 (Z6 (a3e (N9 (jv 1) A2) (a0R (N9 (A7 O__law_next (hr.mono (by omega)) rfl (jaC (jv 0) (jaC A2 jaN))) A2))))
 (A5 (B0 (jv 2)))
 B6)
 (A5 (B0 (O0 (O0 (a0U rfl T.b_str (jaC (jv 1) jaN)) B2) (jv 2)))))),?_⟩
  refine⟨_,rfl,rfl,_,rfl,C9 (λe=>?_) (λe=>?_)⟩
  .have e:nm=wd "":=V.str.inj (of_decide_eq_true e);have hp:pl=ns.length:=by
    rcases hpl with⟨_,z⟩|⟨z,_⟩
    .exact absurd e z
    .exact z
   refine⟨_,rfl,x.toNat,by rw[<-hxn],hlt,?_⟩;exact k [C2 x] H ⟨h0,h1,.inr ⟨hp,rfl⟩⟩ hP (Off.refl _ _)
  have hne:nm≠wd "":=λz=>e (decide_eq_true (by rw[z]));have hp:ns[pl]?=some nm:=by
   rcases hpl with⟨z,_⟩|⟨_,z⟩
   .exact z
   .exact absurd z hne
  have hnl:=((hnm.nm nm (List.mem_of_getElem? hp)).wg).1;have long:∀{H1:Hp}{D:Ends},PotAt H1 a b->Off [a,b] H H1->D.rt=Q->b1I (tOp a2T (tOp a2T (tCB a7v (a0A (Y6 1) a0l)) (tC (V.str (Str.ofString " ")))) (Y6 2)) D [some (V.ref a),some (V.int x),some (V.str nm)] H1:=by
   intro H1 D P1 o1 hD;refine⟨_,rfl,x.toNat,by rw[<-hxn],hlt,_,_,rfl,rfl,by show(C2 x).length+1<=_;omega,_,rfl,_,_,rfl,rfl,by rw[B7];show(C2 x).length+1+_<=_;omega,?_⟩;rw[hD];exact k [C2 x,nm] H1 ⟨h0,h1,.inl ⟨nm,hp,.inl rfl⟩⟩ P1 o1
  refine⟨_,rfl,rfl,_,rfl,C9 (λe=>?_) (λe=>?_)⟩
  .have e:x=1:=V.int.inj (of_decide_eq_true e);refine⟨_,rfl,a,b,2,rfl,hP,by decide,by decide +kernel,λr1 H1 _ _ P1 f1=>⟨rfl,_,rfl,C9 (λe2=>?_) (λe2=>?_)⟩⟩
   .exact⟨_,rfl,k [nm] H1 ⟨h0,h1,.inl ⟨nm,hp,.inr ⟨e,rfl⟩⟩⟩ P1 f1⟩
   .exact long P1 f1 rfl
  .exact long hP (Off.refl _ _) rfl
def a7o:Sp:=λvs H Q _=>∃(a b h:Addr) (ns:List Str) (ts:List (List Str)) (ps:List (Nat×Int)),vs=[.ref a,.ref h]/\PotAt H a b/\TxL H h ts/\Nms ns/\Tms ns ts ps/\ts.length<=50/\∀ts' H',ts.Perm ts'->PotAt H' a b->Off [a,b] H H'->Q (.str (Str.join bk (B5 ts'))) H'
theorem sc__law_half:FnScope ["_law_pot_here","_law_terms","_law_left","_law_made"] ["_law_pot_here","_law_terms"] (A3 O8):=⟨rfl,rfl,rfl,by decide +kernel,rfl,by decide +kernel,by decide +kernel⟩
theorem a5K{α:Type}:∀(l:List α) (i:Nat) (x:α),l[i]?=some x->l.Perm (x::l.eraseIdx i)
 |y::l,0,x,h=>by cases h;exact .refl _
 |y::l,i+1,x,h=>((a5K l i x h).cons y).trans (.swap _ _ _)
theorem b0e(F:FunAt K mg "_law_half" O8 ["_law_pot_here","_law_terms"])(T:Tx mg)(O__law_next:Ok P w K mg base "_law_next" 1 ["_law_pot_here","_law_many"] Q8):Ok P w K mg base "_law_half" 2 ["_law_pot_here","_law_terms"] a7o:=by
 refine F.okJ sc__law_half (λvs H Q E h=>?_) (λcdv f A outer s H vs Q E hr h=>?_)
 .obtain⟨a,b,h,ns,ts,ps,rfl,_⟩:=h;rfl
 .obtain⟨a,b,h,ns,ts,ps,rfl,hP,hh,hnm,hT,hl,k⟩:=h;have hz:(100000:Nat)<=sizeLine:=by rw[sizeLine_eq];decide
  have hu:=hr.u60;refine⟨_,(A1 (B3 (i:=2) sc__law_half.nd rfl (Or.inl rfl) (a5A K rfl T.b_list (jaC (jv 1) jaN)))
 (A1 (B3 (i:=3) sc__law_half.nd rfl (Or.inl rfl) (C5 jaN))
 (A1 (a3Z (a1u K hu (jv 2) (C5 jaN))
 (A5 (C4 (C8 K (jv 3) (jaC (Z8 K (jv 2) (jaC (A7 O__law_next (hr.mono (by omega)) rfl (jaC (jv 0) (jaC (G0 K rfl T.b_len (jaC (jv 2) jaN)) jaN))) jaN)) jaN)))))
 (A5 (B0 (a0T K B2 (jaC (b1u (jv 3) (b1s (C5 (jaC B2 jaN)) (a3h rfl T.b_int (jaC (b2U K hu (jv 3) (C5 jaN)) jaN)))) jaN))))))),?_⟩
  refine⟨_,rfl,h,_,rfl,.inl (SqL.of hh),λpl hpl=>?_⟩;have fl:H pl=none:=hpl;have ql:=C1 hP hpl;have s1:=(Same.refl H).upd (o:=.lst ((ts.map (Str.join bk)).map V.str)) hpl;have e1:upd H pl (.lst ((ts.map (Str.join bk)).map V.str)) pl=some (.lst ((ts.map (Str.join bk)).map V.str)):=A0;generalize upd H pl (.lst ((ts.map (Str.join bk)).map V.str))=H1 at s1 e1;dsimp only[A9];refine⟨Nat.zero_le _,λpm hpm=>?_⟩;have fm:H pm=none:=s1.free hpm;have qm:=C1 hP fm;have s2:=s1.upd (o:=.lst []) hpm;have e2:upd H1 pm (.lst []) pm=some (.lst []):=A0;have e12:=G8 (o:=.lst []) e1 hpm;have nlm:pl≠pm:=A4 e1 hpm;generalize upd H1 pm (.lst [])=H2 at s2 e2 e12;dsimp only[A9];refine S2 (λσ H'=>∃M,σ=[some (.ref a),some (.ref h),some (.ref pl),some (.ref pm)]/\TxL H' pm M/\ts.Perm M/\PotAt H' a b/\Off [a,b] H H') ?fin λfin=>?_
  case fin =>
   rintro σ H3 ⟨M,rfl,c1,hM,P3,o3⟩;obtain⟨ps',hT',_⟩:=hT.perm hM;have hMl:M.length<=50:=by rw[<-hM.length_eq];exact hl
   have tw:∀t∈M,(∀x∈t,Wg x)/\t.length<=2:=λt ht=>by obtain⟨p,_,q⟩:=hT'.all t ht;exact q.wg hnm
   have hne:∀t∈M,t≠[]:=λt ht=>by obtain⟨p,_,q⟩:=hT'.all t ht;exact q.ne
   refine⟨rfl,_,rfl,by show 1<=sizeLine;omega,λq1 hq1=>?_⟩;have t1:=(Same.refl H3).upd (o:=.lst [V.str (wd "0")]) hq1;have g1:upd H3 q1 (.lst [V.str (wd "0")]) q1=some (.lst [V.str (wd "0")]):=A0;generalize upd H3 q1 (.lst [V.str (wd "0")])=H4 at t1 g1;refine⟨_,rfl,Nat.zero_le _,λq2 hq2=>?_⟩;have t2:=t1.upd (o:=.lst []) hq2;have g2:=G8 (o:=.lst []) g1 hq2;have hE:EqV K (upd H4 q2 (.lst [])) 1 (.ref pm) (.ref q2) (decide (M.map (Str.join bk)=[])):=EqV.strs (k:=false) (SqL.of (t2 _ _ c1)) (SqL.of (show upd H4 q2 (.lst []) q2=some (.lst (([]:List Str).map V.str))from A0));generalize upd H4 q2 (.lst [])=H5 at t2 g2 hE;refine⟨1,_,by decide,hE,⟨_,_,rfl,rfl⟩,.inr ⟨_,rfl,?_⟩⟩;have hif:(if false=true then !decide (M.map (Str.join bk)=[])else decide (M.map (Str.join bk)=[]))=decide (M=[]):=by
    rw[if_neg (by decide)];congr 1;rw[List.map_eq_nil_iff]
   rw[hif];obtain⟨c,hc1,hc2,hc3⟩:∃c:Nat,(if (decide (M=[]))=true then(1:Int)else 0)=c/\c<=1/\(M.map (Str.join bk)).map V.str++(List.replicate c [V.str (wd "0")]).flatten=(if M=[] then[wd "0"] else M.map (Str.join bk)).map V.str:=by
    by_cases h1:M=[]
    .refine⟨1,by rw[if_pos (decide_eq_true h1)];rfl,Nat.le_refl _,?_⟩;rw[if_pos h1,h1];rfl
    .refine⟨0,by rw[if_neg (by simpa using h1)];rfl,by decide,?_⟩;rw[if_neg h1];simp
   rw[hc1];refine⟨q1,c,_,rfl,rfl,g2,by omega,by omega,by show 1*_<=_;omega,λq3 hq3=>?_⟩;rw[Int.toNat_natCast];have t3:=t2.upd (o:=.lst (List.replicate c [V.str (wd "0")]).flatten) hq3;have g3:upd H5 q3 (.lst (List.replicate c [V.str (wd "0")]).flatten) q3=some (.lst (List.replicate c [V.str (wd "0")]).flatten):=A0;generalize upd H5 q3 (.lst (List.replicate c [V.str (wd "0")]).flatten)=H6 at t3 g3;refine⟨pm,q3,_,_,rfl,rfl,t3 _ _ c1,g3,by rw[a5w,List.length_map,List.length_map];simp;omega,λq4 hq4=>?_⟩;rw[hc3];have t4:=t3.upd (o:=.lst ((if M=[] then[wd "0"] else M.map (Str.join bk)).map V.str)) hq4;have g4:upd H6 q4 (.lst ((if M=[] then[wd "0"] else M.map (Str.join bk)).map V.str)) q4=some (.lst ((if M=[] then[wd "0"] else M.map (Str.join bk)).map V.str)):=A0;generalize upd H6 q4 (.lst ((if M=[] then[wd "0"] else M.map (Str.join bk)).map V.str))=H7 at t4 g4;have hj:Str.join wplus (if M=[] then[wd "0"] else M.map (Str.join bk))=Str.join bk (B5 M):=by
    unfold B5;by_cases h1:M=[]
    .rw[if_pos h1,if_pos h1];rfl
    .rw[if_neg h1,if_neg h1,a0u hne]
   have hbd:∀y∈(if M=[] then[wd "0"] else M.map (Str.join bk)),y.length<=42:=λy hy=>by
    split at hy
    .rw[List.mem_singleton.mp hy];decide
    .obtain⟨t,ht,rfl⟩:=List.mem_map.mp hy;exact a2s (tw t ht).1 (tw t ht).2
   have hll:(if M=[] then[wd "0"] else M.map (Str.join bk)).length<=51:=by
    split
    .show 1<=51;decide
    .rw[List.length_map];omega
   have hjl:(Str.join bk (B5 M)).length<=4000:=by
    obtain⟨w1,w2,_⟩:=T4 tw;have:=K2 (c:=32) (B:=20) (ys:=B5 M) λy hy=>(w1 y hy).1;exact Nat.le_trans this (Nat.le_trans (Nat.mul_le_mul (show _<=151 by omega) (Nat.le_refl 21)) (by decide))
   refine⟨wplus,q4,_,42,rfl,rfl,SqL.of g4,hbd,by rw[show wplus.length=3 from rfl];omega,by rw[hj];omega,?_⟩;rw[hj];exact k M _ hM (P3.same t4) (o3.trans t4.off)
  refine⟨λm σ H'=>∃R M,m=R.length/\σ=[some (.ref a),some (.ref h),some (.ref pl),some (.ref pm)]/\TxL H' pl R/\TxL H' pm M/\ts.Perm (M++R)/\PotAt H' a b/\Off [a,b] H H',⟨_,ts,[],rfl,rfl,e12,e2,.refl _,hP.same s2,s2.off⟩,?_⟩;rintro m σ H3 ⟨R,M,rfl,rfl,c1,c2,hp,P3,o3⟩;refine⟨_,rfl,Nat.zero_le _,λe he=>?_⟩;have s4:=(Same.refl H3).upd (o:=.lst []) he;have hE:EqV K (upd H3 e (.lst [])) 1 (.ref pl) (.ref e) (((R.map (Str.join bk)).map V.str).length==0):=EqV.empty (SqL.of (s4 _ _ c1)) (SqL.of A0);have d1:TxL (upd H3 e (.lst [])) pl R:=s4 _ _ c1;have d2:TxL (upd H3 e (.lst [])) pm M:=s4 _ _ c2;have P4:=P3.same s4;have o4:=o3.trans s4.off;generalize upd H3 e (.lst [])=H4 at hE d1 d2 P4 o4;refine⟨1,_,by decide,hE,⟨_,_,rfl,rfl⟩,_,rfl,?_⟩;rw[if_pos rfl,List.length_map,List.length_map];have hlen:=hp.length_eq;rw[List.length_append]at hlen;by_cases hR:R=[]
  .subst hR;exact L6 (fin _ _ ⟨M,rfl,d2,by simpa using hp,P4,o4⟩)
  .have hRl:0<R.length:=List.length_pos_iff.mpr hR;rw[show(!(R.length==0))=true by simp;exact hR];refine R5 ⟨λσ' H'=>∃R' M',R'.length<R.length/\σ'=[some (.ref a),some (.ref h),some (.ref pl),some (.ref pm)]/\TxL H' pl R'/\TxL H' pm M'/\ts.Perm (M'++R')/\PotAt H' a b/\Off [a,b] H H',λσ' H' ⟨R',M',h1,h2,h3⟩=>⟨R'.length,h1,R',M',rfl,h2,h3⟩,?_⟩;refine⟨_,rfl,.inl ⟨rfl,_,SqL.of d2⟩,_,rfl,.inl ⟨rfl,_,SqL.of d1⟩,_,rfl,_,rfl,pl,_,rfl,.inl (SqL.of d1),a,b,_,rfl,P4,by rw[List.length_map,List.length_map];omega,Int.lt_of_le_of_lt (show(((R.map (Str.join bk)).map V.str).length:Int)<=1000 by rw[List.length_map,List.length_map];omega) (by decide +kernel),λr5 H5 h50 h51 P5 f5=>?_⟩;rw[List.length_map,List.length_map]at h51;obtain⟨j,rfl⟩:∃g:Nat,r5=g:=⟨r5.toNat,by omega⟩;have hj:j<R.length:=by omega
   have hjR:=List.getElem?_eq_getElem hj;generalize R[j]=u at hjR;have g1:=f5 _ _ ql d1;have g2:=f5 _ _ qm d2;refine⟨pl,_,_,j,V.str (Str.join bk u),rfl,rfl,g1,by omega,by omega,by rw[List.length_map,List.length_map];exact seqIndex_of (by omega) (by omega),by rw[List.getElem?_map,List.getElem?_map,hjR];rfl,pm,_,_,rfl,rfl,by rw[A6 nlm.symm];exact g2,by rw[List.length_map,List.length_map];omega,?_⟩;refine⟨R.eraseIdx j,M++[u],by rw[List.length_eraseIdx,if_pos hj];omega,rfl,?_,?_,?_,J0 (J0 P5 ql) qm,U5 (U5 (o4.trans f5) fl) fm⟩
   .show upd _ pm _ pl=_;rw[A6 nlm,A0,a3o,a3o]
   .show upd _ pm _ pm=_;rw[A0];simp
   .refine hp.trans ?_;rw[List.append_assoc];exact(a5K R j u hjR).append_left M
def b0Z:Sp:=λvs H Q _=>∃(a b hv h0 h1:Addr) (ns:List Str) (ts0 ts1:List (List Str)) (ps0 ps1:List (Nat×Int)) (x:Int) (pl:Nat) (nm:Str),vs=[.ref a,.ref hv,.int x,.str nm]/\PotAt H a b/\H hv=some (.lst [.ref h0,.ref h1])/\TxL H h0 ts0/\TxL H h1 ts1/\h0≠h1/\h0∉[a,b]/\h1∉[a,b]/\Nms ns/\PlN ns pl nm/\Tms ns ts0 ps0/\Tms ns ts1 ps1/\ts0.length<=100/\ts1.length<=100 /\ -topN<=x/\x<=topN /\
 ∀ts0' ts1' ps0' ps1' H',TxL H' h0 ts0'->TxL H' h1 ts1'->Tms ns ts0' ps0'->Tms ns ts1' ps1'->ts0'.length<=ts0.length+3->ts1'.length<=ts1.length+3->(∀j,D9 ps0' j-D9 ps1' j=D9 ps0 j-D9 ps1 j+if pl=j then x else 0)->PotAt H' a b->Off [a,b,h0,h1] H H'->Q .non H'
theorem sc__law_put:FnScope ["_law_pot_here","_law_halves","_law_number","_law_name","_law_here","_law_there","_law_kind","_law_more","_law_less"] ["_law_pot_here","_law_halves","_law_number","_law_name"] (A3 S7):=⟨rfl,rfl,rfl,by decide +kernel,rfl,by decide +kernel,by decide +kernel⟩
theorem b2L(F:FunAt K mg "_law_put" S7 ["_law_pot_here","_law_halves","_law_number","_law_name"])(T:Tx mg)(O__law_next:Ok P w K mg base "_law_next" 1 ["_law_pot_here","_law_many"] Q8)(O__law_term:Ok P w K mg base "_law_term" 2 ["_law_pot_here","_law_number","_law_name"] a4C):Ok P w K mg base "_law_put" 3 ["_law_pot_here","_law_halves","_law_number","_law_name"] b0Z:=by
 refine F.okJ sc__law_put (λvs H Q E h=>?_) (λcdv f A outer s H vs Q E hr h=>?_)
 .obtain⟨a,b,hv,h0,h1,ns,ts0,ts1,ps0,ps1,x,pl,nm,rfl,_⟩:=h;rfl
 .obtain⟨a,b,hv,h0,h1,ns,ts0,ts1,ps0,ps1,x,pl,nm,rfl,hP,hhv,ht0,ht1,n01,q0,q1,hnm,hpl,hT0,hT1,hl0,hl1,hx1,hx2,k⟩:=h;have hz:(100000:Nat)<=sizeLine:=by rw[sizeLine_eq];decide
  refine⟨_,(A1 (a3f (J5 K (C5 (jaC (jv 1) (jaC (a8z K (jv 1) (Q3 A2)) jaN))) (a3h rfl T.b_int (jaC (b4F (jv 2) A2) jaN))) (b3b K 2 (B1 (A8 (i:=4) sc__law_put.nd rfl (Or.inl rfl)) (B1 (A8 (i:=5) sc__law_put.nd rfl (Or.inl rfl)) E8))))
 (A1 (B3 (i:=2) sc__law_put.nd rfl (Or.inl rfl) (a3j rfl T.b_abs (jaC (jv 2) jaN)))
 (A1 (B3 (i:=6) sc__law_put.nd rfl (Or.inl rfl) (A7 O__law_next (hr.mono (by omega)) rfl (jaC (jv 0) (jaC A2 jaN))))
 (A1 (B3 (i:=7) sc__law_put.nd rfl (Or.inl rfl) (O1 A2 (A7 O__law_next (hr.mono (by omega)) rfl (jaC (jv 0) (jaC (a8A A2 A2) jaN)))))
 (A1 (C0 (Z6 (a3e (N9 (jv 6) A2) (a0R (T7 (jv 2) A2))))
 (A1 (B3 (i:=8) sc__law_put.nd rfl (Or.inl rfl) (O1 A2 (A7 O__law_next (hr.mono (by omega)) rfl (jaC (jv 0) (jaC (a4f (jv 2) A2) jaN)))))
 (A5 (C4 (W1 K (jv 4) (jaC (C5 (jaC (A7 O__law_term (hr.mono (by omega)) rfl (jaC (jv 0) (jaC (jv 8) (jaC (jv 3) jaN)))) (jaC (A7 O__law_term (hr.mono (by omega)) rfl (jaC (jv 0) (jaC (a4f (jv 2) (jv 8)) (jaC (jv 3) jaN)))) jaN))) jaN)))))
 (A5 (C0 (T7 (jv 2) A2)
 (A5 (C4 (C8 K (jv 4) (jaC (A7 O__law_term (hr.mono (by omega)) rfl (jaC (jv 0) (jaC (jv 2) (jaC (jv 3) jaN)))) jaN))))
 B6)))
 (A5 (C0 (N9 (jv 6) A2)
 (A1 (C4 (C8 K (jv 4) (jaC (A7 O__law_term (hr.mono (by omega)) rfl (jaC (jv 0) (jaC (jv 7) (jaC (jv 3) jaN)))) jaN)))
 (A5 (C4 (C8 K (jv 5) (jaC (A7 O__law_term (hr.mono (by omega)) rfl (jaC (jv 0) (jaC (jv 7) (jaC (jv 3) jaN)))) jaN)))))
 B6))))))),?_⟩
  refine⟨_,rfl,_,rfl,_,rfl,rfl,hv,_,rfl,SqL.of hhv,λpv hpv=>?_⟩;have s1:=(Same.refl H).upd (o:=.lst [V.ref h1,V.ref h0]) hpv;have e1:upd H pv (.lst [V.ref h1,V.ref h0]) pv=some (.lst [V.ref h1,V.ref h0]):=A0;change _/\_;generalize hq1:upd H pv _=H1;have hq1:upd H pv (.lst [V.ref h1,V.ref h0])=H1:=hq1;rw[hq1]at s1 e1;refine⟨by show 2<=sizeLine;omega,λpw hpw=>?_⟩;have s2:=s1.upd (o:=.lst [V.ref hv,V.ref pv]) hpw;have e2:upd H1 pw (.lst [V.ref hv,V.ref pv]) pw=some (.lst [V.ref hv,V.ref pv]):=A0;have e12:=G8 (o:=.lst [V.ref hv,V.ref pv]) e1 hpw;generalize upd H1 pw (.lst [V.ref hv,V.ref pv])=H2 at s2 e2 e12;have P2:=hP.same s2;obtain⟨y,hy⟩:∃y:Int,(if x<0 then -x else x)=y:=⟨_,rfl⟩;have hy0:0<=y/\y<=topN:=by rw[<-hy];unfold topN at *;split<;>omega
  obtain⟨pz,hh,hd,tsA,tsB,psA,psB,hat,hpz,htA,htB,nAB,qA,qB,hTA,hTB,hlA,hlB,kk⟩:∃pz hh hd tsA tsB psA psB,atI [V.ref hv,V.ref pv] (if decide (x<0)=true then 1 else 0)=some (V.ref pz)/\H2 pz=some (.lst [V.ref hh,V.ref hd])/\TxL H hh tsA/\TxL H hd tsB/\hh≠hd/\hh∉[a,b]/\hd∉[a,b]/\Tms ns tsA psA/\Tms ns tsB psB/\tsA.length<=100/\tsB.length<=100 /\
    ∀tsA' tsB' psA' psB' H',TxL H' hh tsA'->TxL H' hd tsB'->Tms ns tsA' psA'->Tms ns tsB' psB'->tsA'.length<=tsA.length+3->tsB'.length<=tsB.length+3->(∀j,D9 psA' j-D9 psB' j=D9 psA j-D9 psB j+if pl=j then y else 0)->PotAt H' a b->Off [a,b,hh,hd] H H'->Q .non H':=by
   by_cases hx:x<0
   .refine⟨pv,h1,h0,ts1,ts0,ps1,ps0,by rw[if_pos (decide_eq_true hx)];rfl,e12,ht1,ht0,n01.symm,q1,q0,hT1,hT0,hl1,hl0,λtsA' tsB' psA' psB' H' g1 g2 g3 g4 g5 g6 g7 g8 g9=>k tsB' tsA' psB' psA' H' g2 g1 g4 g3 g6 g5 (λj=>?_) g8 (g9.mono λz hz=>by simp only[List.mem_cons,List.not_mem_nil,or_false]at hz⊢;rcases hz with h|h|h|h<;>simp[h])⟩;have:=g7 j;rw[<-hy,if_pos hx]at this;split at this<;>split<;>omega
   .refine⟨hv,h0,h1,ts0,ts1,ps0,ps1,by rw[if_neg (by simpa using hx)];rfl,s2 _ _ hhv,ht0,ht1,n01,q0,q1,hT0,hT1,hl0,hl1,λtsA' tsB' psA' psB' H' g1 g2 g3 g4 g5 g6 g7 g8 g9=>k tsA' tsB' psA' psB' H' g1 g2 g3 g4 g5 g6 (λj=>?_) g8 g9⟩;have:=g7 j;rw[<-hy,if_neg hx]at this;exact this
  refine⟨_,rfl,_,_,rfl,rfl,.inr ⟨_,rfl,pw,_,_,_,rfl,rfl,SqL.of e2,hat,pz,_,rfl,SqL.of hpz,rfl,_,_,rfl,_,[],rfl,rfl,?_⟩⟩;dsimp only[A9];refine⟨_,rfl,_,rfl,?_⟩;rw[hy];dsimp only[A9];have htA2:TxL H2 hh tsA:=s2 _ _ htA;have htB2:TxL H2 hd tsB:=s2 _ _ htB;have o2:Off [a,b] H H2:=s2.off;clear s1 s2 e1 e2 e12 hhv ht0 ht1 hT0 hT1 k hpz hat htA htB hpv hpw hq1;refine⟨_,rfl,a,b,3,rfl,P2,by decide,by decide +kernel,λkd H3 _ _ P3 f3=>?_⟩;dsimp only[A9];refine⟨_,rfl,_,_,rfl,rfl,⟨by decide,by decide,by decide⟩,a,b,_,rfl,P3,by decide,by decide +kernel,λmr H4 h40 h41 P4 f4=>⟨_,_,rfl,rfl,?_⟩⟩;have h41:mr<1000000000000:=h41;dsimp only[A9];have htA4:TxL H4 hh tsA:=f4 _ _ qA (f3 _ _ qA htA2);have htB4:TxL H4 hd tsB:=f4 _ _ qB (f3 _ _ qB htB2);have o4:=(o2.trans f3).trans f4;clear htA2 htB2 o2 f3 f4 P2 P3;obtain⟨mo,hmo⟩:∃mo:Int,1+mr=mo:=⟨_,rfl⟩;rw[hmo];have hmo1:0<mo/\mo<=topN:=by unfold topN;omega
  have sub:∀{Ha Hb:Hp},Off [a,b] Ha Hb->Off [a,b,hh,hd] Ha Hb:=λo=>o.mono λz hz=>by simp only[List.mem_cons,List.not_mem_nil,or_false]at hz⊢;rcases hz with h|h<;>simp[h]
  refine S2 (λσ H'=>∃tsA' psA' o8,σ=[some (.ref a),some (.ref hv),some (.int y),some (.str nm),some (.ref hh),some (.ref hd),some (.int kd),some (.int mo),o8]/\TxL H' hh tsA'/\TxL H' hd tsB/\Tms ns tsA' psA'/\tsA'.length<=tsA.length+2/\(∀j,D9 psA' j=D9 psA j+if pl=j then y else 0)/\PotAt H' a b/\Off [a,b,hh,hd] H H') ?fin λfin=>?_
  case fin =>
   rintro σ H5 ⟨tsA',psA',o8,rfl,c1,c2,hTA',hl',htot,P5,o5⟩;refine⟨_,rfl,rfl,_,rfl,C9 (λe=>?_) (λe=>?_)⟩
   .refine⟨_,rfl,.inl ⟨rfl,_,SqL.of c1⟩,_,rfl,_,rfl,_,rfl,a,b,ns,pl,nm,mo,rfl,P5,hnm,hpl,hmo1.1,hmo1.2,λu H6 hu P6 f6=>?_⟩;have d1:TxL H6 hh tsA':=f6 _ _ qA c1;have d2:TxL H6 hd tsB:=f6 _ _ qB c2;refine⟨hh,_,_,rfl,rfl,d1,by rw[List.length_map,List.length_map];omega,?_⟩;have g1:TxL (upd H6 hh (.lst ((tsA'.map (Str.join bk)).map V.str++[V.str (Str.join bk u)]))) hh (tsA'++[u]):=by
     show upd _ _ _ _=_;rw[A0];simp
    have g2:TxL (upd H6 hh (.lst ((tsA'.map (Str.join bk)).map V.str++[V.str (Str.join bk u)]))) hd tsB:=by
     show upd _ _ _ _=_;rw[A6 nAB.symm];exact d2
    have P7:=J0 (o:=.lst ((tsA'.map (Str.join bk)).map V.str++[V.str (Str.join bk u)])) P6 qA;have o7:=(o5.trans (sub f6)).set (p:=hh) (o:=.lst ((tsA'.map (Str.join bk)).map V.str++[V.str (Str.join bk u)])) (by simp);generalize upd H6 hh (.lst ((tsA'.map (Str.join bk)).map V.str++[V.str (Str.join bk u)]))=H7 at g1 g2 P7 o7;refine⟨_,rfl,.inl ⟨rfl,_,SqL.of g2⟩,_,rfl,_,rfl,_,rfl,a,b,ns,pl,nm,mo,rfl,P7,hnm,hpl,hmo1.1,hmo1.2,λu' H8 hu' P8 f8=>?_⟩;have i1:TxL H8 hh (tsA'++[u]):=f8 _ _ qA g1;have i2:TxL H8 hd tsB:=f8 _ _ qB g2;refine⟨hd,_,_,rfl,rfl,i2,by rw[List.length_map,List.length_map];omega,?_⟩;refine kk (tsA'++[u]) (tsB++[u']) (psA'++[(pl,mo)]) (psB++[(pl,mo)]) _ ?_ ?_ (hTA'.snoc hu) (hTB.snoc hu') (by rw[List.length_append];simp;omega) (by rw[List.length_append];simp) (λj=>?_) (J0 P8 qB) ((o7.trans (sub f8)).set (by simp))
    .show upd _ _ _ _=_;rw[A6 nAB];exact i1
    .show upd _ _ _ _=_;rw[A0];simp
    .simp only[R6,G1,Y4];rw[htot j];split<;>omega
   .exact kk tsA' tsB psA' psB _ c1 c2 hTA' hTB (by omega) (by omega) (λj=>by rw[htot j];omega) P5 o5
  have els:∀{D:Ends},(∀tsA' psA' H',TxL H' hh tsA'->TxL H' hd tsB->Tms ns tsA' psA'->tsA'.length<=tsA.length+2->(∀j,D9 psA' j=D9 psA j+if pl=j then y else 0)->PotAt H' a b->Off [a,b,hh,hd] H H'->D.nx [some (V.ref a),some (V.ref hv),some (V.int y),some (V.str nm),some (V.ref hh),some (V.ref hd),some (V.int kd),some (V.int mo),none] H') ->
    b1J (J7 (tOp (rI0 λi j=>V.bl (decide (j<i))) (Y6 2) (tC (V.int 0)))) (a5j (tBM K "list" a0P (Y6 4) (a0A (a5k a4C [] E0 (a0A (Y6 0) (a0A (Y6 2) (a0A (Y6 3) a0l)))) a0l))) a7f D [some (V.ref a),some (V.ref hv),some (V.int y),some (V.str nm),some (V.ref hh),some (V.ref hd),some (V.int kd),some (V.int mo),none] H4:=by
   intro D hD;refine⟨_,rfl,_,_,rfl,rfl,_,rfl,C9 (λe=>?_) (λe=>?_)⟩
   .have e:0<y:=of_decide_eq_true e;refine⟨_,rfl,.inl ⟨rfl,_,SqL.of htA4⟩,_,rfl,_,rfl,_,rfl,a,b,ns,pl,nm,y,rfl,P4,hnm,hpl,e,hy0.2,λu H5 hu P5 f5=>?_⟩;have d1:TxL H5 hh tsA:=f5 _ _ qA htA4;have d2:TxL H5 hd tsB:=f5 _ _ qB htB4;refine⟨hh,_,_,rfl,rfl,d1,by rw[List.length_map,List.length_map];omega,?_⟩;refine hD (tsA++[u]) (psA++[(pl,y)]) _ ?_ ?_ (hTA.snoc hu) (by rw[List.length_append];simp) (λj=>?_) (J0 P5 qA) (((sub o4).trans (sub f5)).set (by simp))
    .show upd _ _ _ _=_;rw[A0];simp
    .show upd _ _ _ _=_;rw[A6 nAB.symm];exact d2
    .simp only[R6,G1,Y4];split<;>omega
   .have e:¬0<y:=λz=>e (decide_eq_true z);have hy00:y=0:=by omega
    exact hD tsA psA _ htA4 htB4 hTA (by omega) (λj=>by rw[hy00];split<;>omega) P4 (sub o4)
  refine⟨_,rfl,rfl,_,rfl,C9 (λe=>?_) (λe=>?_)⟩
  .refine⟨_,rfl,_,_,rfl,rfl,_,rfl,C9 (λe=>?_) (λe=>?_)⟩
   .have e:1<y:=of_decide_eq_true e;refine⟨_,rfl,_,rfl,_,_,rfl,rfl,a,b,_,rfl,P4,by omega,Int.lt_of_le_of_lt (show y-1<=1000000000000 by unfold topN at hy0;omega) (by decide +kernel),λlr H5 h50 h51 P5 f5=>⟨_,_,rfl,rfl,?_⟩⟩;dsimp only[A9];obtain⟨le,hle⟩:∃le:Int,1+lr=le:=⟨_,rfl⟩;rw[hle];have hle1:0<le/\le<y:=by omega
    have c1:TxL H5 hh tsA:=f5 _ _ qA htA4;have c2:TxL H5 hd tsB:=f5 _ _ qB htB4;refine⟨_,rfl,.inl ⟨rfl,_,SqL.of c1⟩,_,rfl,_,rfl,_,rfl,a,b,ns,pl,nm,le,rfl,P5,hnm,hpl,hle1.1,by omega,λu H6 hu P6 f6=>?_⟩;refine⟨_,rfl,_,rfl,_,rfl,_,_,rfl,rfl,_,rfl,a,b,ns,pl,nm,y-le,rfl,P6,hnm,hpl,by omega,by omega,λu' H7 hu' P7 f7=>⟨by show 2<=sizeLine;omega,λpe hpe=>?_⟩⟩;have s8:=(Same.refl H7).upd (o:=.lst [V.str (Str.join bk u),V.str (Str.join bk u')]) hpe;have e8:upd H7 pe (.lst [V.str (Str.join bk u),V.str (Str.join bk u')]) pe=some (.lst [V.str (Str.join bk u),V.str (Str.join bk u')]):=A0;have d1:TxL (upd H7 pe (.lst [V.str (Str.join bk u),V.str (Str.join bk u')])) hh tsA:=s8 _ _ (f7 _ _ qA (f6 _ _ qA c1));have d2:TxL (upd H7 pe (.lst [V.str (Str.join bk u),V.str (Str.join bk u')])) hd tsB:=s8 _ _ (f7 _ _ qB (f6 _ _ qB c2));have P8:=P7.same s8;have o8:=((((sub o4).trans (sub f5)).trans (sub f6)).trans (sub f7)).trans s8.off;generalize upd H7 pe (.lst [V.str (Str.join bk u),V.str (Str.join bk u')])=H8 at e8 d1 d2 P8 o8;refine⟨hh,pe,_,_,rfl,rfl,d1,e8,by rw[List.length_map,List.length_map];show _+2<=_;omega,?_⟩;refine fin _ _ ⟨tsA++[u]++[u'],psA++[(pl,le)]++[(pl,y-le)],_,rfl,?_,?_,(hTA.snoc hu).snoc hu',by simp,λj=>?_,J0 P8 qA,o8.set (by simp)⟩
    .show upd _ _ _ _=_;rw[A0];simp
    .show upd _ _ _ _=_;rw[A6 nAB.symm];exact d2
    .simp only[R6,G1,Y4];split<;>omega
   .exact els λtsA' psA' H' g1 g2 g3 g4 g5 g6 g7=>fin _ _ ⟨tsA',psA',_,rfl,g1,g2,g3,g4,g5,g6,g7⟩
  .exact els λtsA' psA' H' g1 g2 g3 g4 g5 g6 g7=>fin _ _ ⟨tsA',psA',_,rfl,g1,g2,g3,g4,g5,g6,g7⟩
end
end K46
namespace K46
open PySem PySem.Spec PyProof.Rows L2
section
variable {P:Program}{w:World}{K:PySem.W.Frag}{mg:Str->Option Value}{base:Heap}
def b0S:Sp:=λvs H Q _=>∃(a b t r:Addr) (ns:List Str) (row:List Int) (sd:Int),vs=[.ref a,.ref t,.ref r,.int sd]/\PotAt H a b/\H t=some (.tup (ns.map V.str))/\H r=some (.tup (row.map V.int))/\Nms ns/\ns.length<=7/\row.length=ns.length/\Bds row /\ -topN<=sd/\sd<=topN/\∀ws H',SumL ns ws (row,sd)->PotAt H' a b->Off [a,b] H H'->Q (.str (Str.join bk ws)) H'
theorem sc__law_sum:FnScope ["_law_pot_here","_law_names_here","_law_row","_law_side","_law_halves","_law_name","_law_number"] ["_law_pot_here","_law_names_here","_law_row","_law_side"] (A3 S6):=⟨rfl,rfl,rfl,by decide +kernel,rfl,by decide +kernel,by decide +kernel⟩
theorem b2K(F:FunAt K mg "_law_sum" S6 ["_law_pot_here","_law_names_here","_law_row","_law_side"])(T:Tx mg)(O__law_put:Ok P w K mg base "_law_put" 3 ["_law_pot_here","_law_halves","_law_number","_law_name"] b0Z)(O__law_half:Ok P w K mg base "_law_half" 2 ["_law_pot_here","_law_terms"] a7o):Ok P w K mg base "_law_sum" 4 ["_law_pot_here","_law_names_here","_law_row","_law_side"] b0S:=by
 refine F.okJ sc__law_sum (λvs H Q E h=>?_) (λcdv f A outer s H vs Q E hr h=>?_)
 .obtain⟨a,b,t,r,ns,row,sd,rfl,_⟩:=h;rfl
 .obtain⟨a,b,t,r,ns,row,sd,rfl,hP,ht,hrr,hnm,h7,hl,hb,s1,s2,k⟩:=h;have hz:(100000:Nat)<=sizeLine:=by rw[sizeLine_eq];decide
  refine⟨_,(A1 (B3 (i:=4) sc__law_sum.nd rfl (Or.inl rfl) (C5 (jaC (C5 jaN) (jaC (C5 jaN) jaN))))
 (A1 (R3 (T3 K rfl T.b_zip (jaC (jv 1) (jaC (jv 2) jaN))) (K4 K 2 (B1 (A8 (i:=5) sc__law_sum.nd rfl (Or.inl rfl)) (B1 (A8 (i:=6) sc__law_sum.nd rfl (Or.inl rfl)) E8)))
 (A5 (C4 (A7 O__law_put (hr.mono (by omega)) rfl (jaC (jv 0) (jaC (jv 4) (jaC (jv 6) (jaC (jv 5) jaN))))))))
 (A1 (C4 (A7 O__law_put (hr.mono (by omega)) rfl (jaC (jv 0) (jaC (jv 4) (jaC (Q3 (jv 3)) (jaC B2 jaN))))))
 (A5 (B0 (O0 (O0 (O0 B2 (A7 O__law_half (hr.mono (by omega)) rfl (jaC (jv 0) (jaC (J5 K (jv 4) A2) jaN)))) B2) (A7 O__law_half (hr.mono (by omega)) rfl (jaC (jv 0) (jaC (J5 K (jv 4) A2) jaN))))))))),?_⟩
  refine⟨Nat.zero_le _,λh0 hh0=>⟨Nat.zero_le _,λh1 hh1=>⟨by show 2<=sizeLine;omega,λhv hhv=>?_⟩⟩⟩;have n01:h0≠h1:=A4 (show upd H h0 (.lst []) h0=some (.lst [])from A0) hh1;have f0:H h0=none:=hh0;have f1:H h1=none:=by rw[A6 n01.symm]at hh1;exact hh1
  have sA:=(((Same.refl H).upd (o:=.lst []) hh0).upd (o:=.lst []) hh1).upd (o:=.lst [V.ref h0,V.ref h1]) hhv;have eV:upd (upd (upd H h0 (.lst [])) h1 (.lst [])) hv (.lst [V.ref h0,V.ref h1]) hv=some (.lst [V.ref h0,V.ref h1]):=A0;have eA:TxL (upd (upd (upd H h0 (.lst [])) h1 (.lst [])) hv (.lst [V.ref h0,V.ref h1])) h0 []:=G8 (G8 (o:=.lst []) (show upd H h0 (.lst []) h0=some (.lst [])from A0) hh1) hhv;have eB:TxL (upd (upd (upd H h0 (.lst [])) h1 (.lst [])) hv (.lst [V.ref h0,V.ref h1])) h1 []:=G8 (show upd (upd H h0 (.lst [])) h1 (.lst []) h1=some (.lst [])from A0) hhv;have fv:H hv=none:=by
   cases e:H hv with
   |none=>rfl
   |some o =>
    have:=(((Same.refl H).upd (o:=.lst []) hh0).upd (o:=.lst []) hh1) _ _ e;rw[this]at hhv;cases hhv
  have nv0:hv≠h0:=λz=>by rw[z,show upd (upd H h0 (.lst [])) h1 (.lst []) h0=some (.lst []) by rw[A6 n01,A0]]at hhv;cases hhv
  have nv1:hv≠h1:=λz=>by rw[z,A0]at hhv;cases hhv
  generalize upd (upd (upd H h0 (.lst [])) h1 (.lst [])) hv (.lst [V.ref h0,V.ref h1])=H1 at sA eV eA eB;have q0:=C1 hP f0;have q1:=C1 hP f1;have qv:=C1 hP fv;dsimp only[A9];have oX:∀{Ha:Hp},Off [a,b,h0,h1] H1 Ha->Off [a,b] H Ha:=λo b' o' hb' he=>o _ _ (λz=>by
   simp only[List.mem_cons,List.not_mem_nil,or_false]at z;rcases z with z|z|z|z
   .exact hb' (by simp[z])
   .exact hb' (by simp[z])
   .rw[z,f0]at he;cases he
   .rw[z,f1]at he;cases he) (sA _ _ he)
  have vX:hv∉[a,b,h0,h1]:=λz=>by
   simp only[List.mem_cons,List.not_mem_nil,or_false]at z;rcases z with z|z|z|z
   .exact qv (by simp[z])
   .exact qv (by simp[z])
   .exact nv0 z
   .exact nv1 z
  refine⟨_,rfl,_,rfl,true,true,t,r,rfl,⟨_,SqT.of (sA _ _ ht)⟩,⟨_,SqT.of (sA _ _ hrr)⟩,?_⟩;have hemp:∀n∈ns,n≠wd "":=λn hn' z=>by have:=(hnm.nm n hn').1;rw[z]at this;exact absurd this (by decide)
  have tX:∀{Ha:Hp},Off [a,b,h0,h1] H1 Ha->Ha t=some (.tup (ns.map V.str))/\Ha r=some (.tup (row.map V.int)):=λo=>⟨oX o _ _ (C7 hP ht) ht,oX o _ _ (C7 hP hrr) hrr⟩;refine a5H (K:=K) (k1:=true) (k2:=true) (a:=t) (b:=r) (xs:=ns.map V.str) (zs:=row.map V.int) (λi σ H'=>∃o5 o6 ts0 ts1 ps0 ps1,σ=[some (.ref a),some (.ref t),some (.ref r),some (.int sd),some (.ref hv),o5,o6]/\TxL H' h0 ts0/\TxL H' h1 ts1/\Tms ns ts0 ps0/\Tms ns ts1 ps1/\ts0.length<=3*i/\ts1.length<=3*i/\(∀j,D9 ps0 j-D9 ps1 j=if j<i then row.getD j 0 else 0)/\PotAt H' a b/\Off [a,b,h0,h1] H1 H') ⟨_,_,[],[],[],[],rfl,eA,eB,.nil,.nil,Nat.le_refl _,Nat.le_refl _,λj=>by rw[Y4];simp,hP.same sA,Off.refl _ _⟩ (λi σ H' _ _ ⟨_,_,_,_,_,_,_,_,_,_,_,_,_,_,_,o⟩=>⟨SqT.of (tX o).1,SqT.of (tX o).2⟩) ?_ ?_
  .rintro i x z σ H2 p hx hz1 ⟨o5,o6,ts0,ts1,ps0,ps1,rfl,c0,c1,hT0,hT1,l0,l1,htot,P2,o2⟩ hp;obtain⟨nm,hnm1,rfl⟩:=L7 hx;obtain⟨y,hy1,rfl⟩:=L7 hz1;have hi:i<ns.length:=(List.getElem?_eq_some_iff.mp hnm1).1;have s3:=(Same.refl H2).upd (o:=.tup [V.str nm,V.int y]) hp;have d0:TxL (upd H2 p (.tup [V.str nm,V.int y])) h0 ts0:=s3 _ _ c0;have d1:TxL (upd H2 p (.tup [V.str nm,V.int y])) h1 ts1:=s3 _ _ c1;have dp:upd H2 p (.tup [V.str nm,V.int y]) p=some (.tup [V.str nm,V.int y]):=A0;have P3:=P2.same s3;have o3:=o2.trans s3.off;generalize upd H2 p (.tup [V.str nm,V.int y])=H3 at d0 d1 dp P3 o3;refine⟨p,_,rfl,SqT.of dp,rfl,_,_,rfl,_,[],rfl,rfl,?_⟩;dsimp only[A9];obtain⟨y1,y2⟩:=hb y (List.mem_of_getElem? hy1);refine⟨_,rfl,_,rfl,_,rfl,_,rfl,a,b,hv,h0,h1,ns,ts0,ts1,ps0,ps1,y,i,nm,rfl,P3,o3 _ _ vX eV,d0,d1,n01,q0,q1,hnm,.inl ⟨hnm1,hemp nm (List.mem_of_getElem? hnm1)⟩,hT0,hT1,by omega,by omega,y1,y2,λts0' ts1' ps0' ps1' H4 g0 g1 gT0 gT1 gl0 gl1 gtot P4 o4=>?_⟩;refine⟨_,_,ts0',ts1',ps0',ps1',rfl,g0,g1,gT0,gT1,by omega,by omega,λj=>?_,P4,o3.trans o4⟩;rw[gtot j,htot j];by_cases e:i=j
   .subst e;rw[if_neg (by omega),if_pos rfl,if_pos (by omega),List.getD_eq_getElem?_getD,hy1];simp
   .rw[if_neg e];by_cases e2:j<i
    .rw[if_pos e2,if_pos (by omega)];omega
    .rw[if_neg e2,if_neg (by omega)];omega
  .rintro σ H2 ⟨o5,o6,ts0,ts1,ps0,ps1,rfl,c0,c1,hT0,hT1,l0,l1,htot,P2,o2⟩;rw[List.length_map,List.length_map,hl,Nat.min_self]at l0 l1 htot;refine⟨_,rfl,_,rfl,_,rfl,_,rfl,a,b,hv,h0,h1,ns,ts0,ts1,ps0,ps1,-sd,ns.length,wd "",rfl,P2,o2 _ _ vX eV,c0,c1,n01,q0,q1,hnm,.inr ⟨rfl,rfl⟩,hT0,hT1,by omega,by omega,by unfold topN at *;omega,by unfold topN at *;omega,λts0' ts1' ps0' ps1' H4 g0 g1 gT0 gT1 gl0 gl1 gtot P4 o4=>?_⟩;have o4':=o2.trans o4;have eV4:=o4' _ _ vX eV;refine⟨_,rfl,_,rfl,hv,_,0,_,rfl,rfl,SqL.of eV4,rfl,a,b,h0,ns,ts0',ps0',rfl,P4,g0,hnm,gT0,by omega,λtsA H5 hpA P5 f5=>?_⟩;obtain⟨psA,hTA,hpsA⟩:=gT0.perm hpA;have hlA:tsA.length<=24:=by rw[<-hpA.length_eq];omega
   have tw:∀t∈tsA,(∀x∈t,Wg x)/\t.length<=2:=λt ht=>by obtain⟨p,_,q⟩:=hTA.all t ht;exact q.wg hnm
   obtain⟨w1,w2,w3⟩:=T4 tw;have l1':(Str.join bk (B5 tsA)).length<=2000:=by
    have:=K2 (c:=32) (B:=20) (ys:=B5 tsA) λy hy=>(w1 y hy).1;exact Nat.le_trans this (Nat.le_trans (Nat.mul_le_mul (show _<=73 by omega) (Nat.le_refl 21)) (by decide))
   have l2:(Str.ofString "sum " ++ Str.join bk (B5 tsA)).length<=2004:=by rw[B7,show(Str.ofString "sum ").length=4 from rfl];omega
   have l3:(Str.ofString "sum " ++ Str.join bk (B5 tsA)++Str.ofString " = ").length<=2007:=by rw[B7,show(Str.ofString " = ").length=3 from rfl];omega
   refine⟨_,_,rfl,rfl,by show 4+_<=_;omega,_,_,rfl,rfl,by show(Str.ofString "sum " ++ Str.join bk (B5 tsA)).length+3<=_;omega,?_⟩;refine⟨_,rfl,_,rfl,hv,_,1,_,rfl,rfl,SqL.of (f5 _ _ qv eV4),rfl,a,b,h1,ns,ts1',ps1',rfl,P5,f5 _ _ q1 g1,hnm,gT1,by omega,λtsB H6 hpB P6 f6=>?_⟩;obtain⟨psB,hTB,hpsB⟩:=gT1.perm hpB;have hlB:tsB.length<=24:=by rw[<-hpB.length_eq];omega
   have uw:∀t∈tsB,(∀x∈t,Wg x)/\t.length<=2:=λt ht=>by obtain⟨p,_,q⟩:=hTB.all t ht;exact q.wg hnm
   obtain⟨v1,v2,v3⟩:=T4 uw;have l4:(Str.join bk (B5 tsB)).length<=2000:=by
    have:=K2 (c:=32) (B:=20) (ys:=B5 tsB) λy hy=>(v1 y hy).1;exact Nat.le_trans this (Nat.le_trans (Nat.mul_le_mul (show _<=73 by omega) (Nat.le_refl 21)) (by decide))
   refine⟨_,_,rfl,rfl,by show(Str.ofString "sum " ++ Str.join bk (B5 tsA)++Str.ofString " = ").length+_<=_;omega,?_⟩;rw[a3H (w3 λt ht=>by obtain⟨p,_,q⟩:=hTA.all t ht;exact q.ne) (v3 λt ht=>by obtain⟨p,_,q⟩:=hTB.all t ht;exact q.ne)];refine k _ H6 (a7l hnm hTA hTB (by omega) (by omega) hl hb s1 s2 (λj hj=>?_) ?_) P6 (((oX o4').trans f5).trans f6)
   .rw[<-V5 hpsA,<-V5 hpsB,gtot j,htot j,if_pos hj,if_neg (by omega)];omega
   .rw[<-V5 hpsA,<-V5 hpsB,gtot,htot,if_neg (by omega),if_pos rfl];omega
end
end K46
namespace K46
open PySem PySem.Spec PyProof.Rows L2
theorem a5v(n m:Str)(y:Int):∀l:List (Str×Int),lk (l++[(n,y)]) m=if m∈l.map (·.1)then lk l m else if n=m then some y else none
 |[]=>by
  show lk [(n,y)] m=_;rw[V9];simp[lk]
 |q::l=>by
  show lk ((q.1,q.2)::(l++[(n,y)])) m=if m∈(q::l).map (·.1)then lk ((q.1,q.2)::l) m else _
  rw[V9,V9,a5v n m y l];by_cases e:q.1=m
  .rw[if_pos e,if_pos e,if_pos (by rw[List.map_cons,e];exact List.mem_cons_self)]
  .rw[if_neg e,if_neg e];by_cases e2:m∈l.map (·.1)
   .rw[if_pos e2,if_pos (by rw[List.map_cons];exact List.mem_cons_of_mem _ e2)]
   .rw[if_neg e2,if_neg (show ¬m∈(q::l).map (·.1) by rw[List.map_cons,List.mem_cons];rintro(z|z);exact e z.symm;exact e2 z)]
theorem a8t{l:List (Str×Int)}(h:(l.map (·.1)).Nodup){q:Str×Int}(hq:q∈l):lk l q.1=some q.2:=by
 induction l with
 |nil=>cases hq
 |cons p l ih =>
  rw[List.map_cons,List.nodup_cons]at h;show lk ((p.1,p.2)::l) q.1=_;rw[V9];rcases List.mem_cons.mp hq with rfl|z
  .rw[if_pos rfl]
  .rw[if_neg λe=>h.1 (by rw[e];exact List.mem_map.mpr ⟨q,z,rfl⟩),ih h.2 z]
theorem b0i{l l':List (Str×Int)}(h:(l.map (·.1)).Nodup)(hp:l.Perm l')(n:Str):lk l' n=lk l n:=by
 have h':(l'.map (·.1)).Nodup:=(hp.map _).nodup_iff.mp h;by_cases e:n∈l.map (·.1)
 .obtain⟨q,hq,rfl⟩:=List.mem_map.mp e;rw[a8t h hq,a8t h' (hp.mem_iff.mp hq)]
 .rw[Z4 e,Z4 λz=>e ((hp.map _).mem_iff.mpr z)]
section
variable {P:Program}{w:World}{K:PySem.W.Frag}{mg:Str->Option Value}{base:Heap}
def b1c:Sp:=λvs H Q _=>∃(a b:Addr) (v:V) (ns:List Str) (rows:LLI) (sides:List Int) (caps:List (Option Int)) (prices:List Int),vs=[.ref a,v]/\PotAt H a b/\SysAt H v ns rows sides caps prices/\SysOk ns rows sides caps prices /\
 ∀L d H',B4 dr0 L=some d->d.names=ns->d.rows=rows->d.sides=sides->d.capsL=caps->d.pricesL=prices->(∀ws∈L,Wl ws)->L≠[]->L.length<=30->PotAt H' a b->Off [a,b] H H'->Q (.str (ptW L)) H'
theorem sc__law_otherwise:FnScope ["_law_pot_here","_law_system","_law_names_here","_law_rows","_law_sides","_law_caps","_law_prices","_law_lines","_law_cap_lines","_law_price_lines","_law_name","_law_price"] ["_law_pot_here","_law_system"] (A3 G2):=⟨rfl,rfl,rfl,by decide +kernel,rfl,by decide +kernel,by decide +kernel⟩
theorem a3a(F:FunAt K mg "_law_otherwise" G2 ["_law_pot_here","_law_system"])(T:Tx mg)(O__law_next:Ok P w K mg base "_law_next" 1 ["_law_pot_here","_law_many"] Q8)(O__law_sum:Ok P w K mg base "_law_sum" 4 ["_law_pot_here","_law_names_here","_law_row","_law_side"] b0S)(O__law_mingled:Ok P w K mg base "_law_mingled" 2 ["_law_pot_here","_law_rows"] b4e):Ok P w K mg base "_law_otherwise" 5 ["_law_pot_here","_law_system"] b1c:=by
 refine F.okJ sc__law_otherwise (λvs H Q E h=>?_) (λcdv f A outer s H vs Q E hr h=>?_)
 .obtain⟨a,b,v,ns,rows,sides,caps,prices,rfl,_⟩:=h;rfl
 .obtain⟨a,b,v,ns,rows,sides,caps,prices,rfl,hP,hS,hO,k⟩:=h;have hz:(16777216:Nat)<=sizeLine:=by rw[sizeLine_eq];decide
  obtain⟨c0,n,r,sd,c,pr,us,rfl,ha,hn,hr1,hI,hs1,hc1,hp1⟩:=hS.ex;have h0:ns≠[]:=λz=>by have:=hO.n1;rw[z]at this;exact absurd this (by decide)
  have hn7:=hO.n7;have hrl:=hO.rl;have hsl:=hO.sl;refine⟨_,(A1 (a3f (jv 1) (K4 K 5 (B1 (A8 (i:=2) sc__law_otherwise.nd rfl (Or.inr rfl)) (B1 (A8 (i:=3) sc__law_otherwise.nd rfl (Or.inl rfl)) (B1 (A8 (i:=4) sc__law_otherwise.nd rfl (Or.inl rfl)) (B1 (A8 (i:=5) sc__law_otherwise.nd rfl (Or.inl rfl)) (B1 (A8 (i:=6) sc__law_otherwise.nd rfl (Or.inl rfl)) E8)))))))
 (A1 (O9 (i:=7) sc__law_otherwise.nd rfl (Or.inl rfl) (N:=["_law_row","_law_side","_law_pot_here","_law_names_here"]) (src:=[none,none,some 0,some 2]) (T3 K rfl T.b_zip (jaC (jv 3) (jaC (jv 4) jaN))) (by show D0 _ _=true;rfl) (by rfl) (by rfl)
 (λ_ _ _ _ _=>(K4 K 2 (B1 (A8 (i:=0) (show(["_law_row","_law_side","_law_pot_here","_law_names_here"]:List Str).Nodup by decide +kernel) rfl (Or.inl rfl)) (B1 (A8 (i:=1) (show(["_law_row","_law_side","_law_pot_here","_law_names_here"]:List Str).Nodup by decide +kernel) rfl (Or.inl rfl)) E8)))) (λ_ _ _ _ _=>E7) (λ_ _ _ _ _=>(A7 O__law_sum (hr.mono (by omega)) rfl (jaC (jv 2) (jaC (jv 3) (jaC (jv 0) (jaC (jv 1) jaN)))))))
 (A1 (O9 (i:=8) sc__law_otherwise.nd rfl (Or.inl rfl) (N:=["_law_name","_law_cap"]) (src:=[none,none]) (T3 K rfl T.b_zip (jaC (jv 2) (jaC (jv 5) jaN))) (by show D0 _ _=true;rfl) (by rfl) (by rfl)
 (λ_ _ _ _ _=>(K4 K 2 (B1 (A8 (i:=0) (show(["_law_name","_law_cap"]:List Str).Nodup by decide +kernel) rfl (Or.inl rfl)) (B1 (A8 (i:=1) (show(["_law_name","_law_cap"]:List Str).Nodup by decide +kernel) rfl (Or.inl rfl)) E8)))) (λ_ _ _ _ _=>(a1v (a5y (jv 1) G9))) (λ_ _ _ _ _=>(a8B (N4 B2 (K3 (jv 0) (N4 B2 (K3 (jv 1) Z9)))))))
 (A1 (B3 (i:=9) sc__law_otherwise.nd rfl (Or.inl rfl) (C5 jaN))
 (A1 (R3 (T3 K rfl T.b_zip (jaC (jv 2) (jaC (jv 6) jaN))) (K4 K 2 (B1 (A8 (i:=10) sc__law_otherwise.nd rfl (Or.inl rfl)) (B1 (A8 (i:=11) sc__law_otherwise.nd rfl (Or.inl rfl)) E8)))
 (A5 (C0 (Z6 (T6 (T7 (jv 11) A2) (R1 (N9 (A7 O__law_next (hr.mono (by omega)) rfl (jaC (jv 0) (jaC A2 jaN))) A2))))
 (A5 (C4 (C8 K (jv 9) (jaC (a8B (N4 B2 (K3 (jv 10) (N4 B2 (K3 (jv 11) Z9))))) jaN))))
 B6)))
 (A5 (B0 (a0T K B2 (jaC (b1u (C5 (jaC (O0 B2 (a4d K B2 (jaC (jv 2) jaN))) jaN)) (A7 O__law_mingled (hr.mono (by omega)) rfl (jaC (jv 0) (jaC (C5 (jaC (jv 7) (jaC (a8z K (jv 8) (Q3 A2)) (jaC (jv 9) jaN)))) jaN)))) jaN))))))))),?_⟩
  refine⟨_,rfl,c0,_,rfl,SqT.of ha,rfl,_,_,rfl,_,_,rfl,_,_,rfl,_,_,rfl,_,[],rfl,rfl,?_⟩;dsimp only[A9];refine⟨_,rfl,_,rfl,true,true,r,sd,rfl,⟨_,SqT.of hr1⟩,⟨_,SqT.of hs1⟩,?_⟩;refine V4 (K:=K) (k1:=true) (k2:=true) (a:=r) (b:=sd) (xs:=us) (zs:=sides.map V.int) (by rw[hI.1];omega) (λi zs H'=>∃L,zs=(L.map (Str.join bk)).map V.str/\SumLs ns L ((rows.zip sides).take i)/\L.length=i/\PotAt H' a b/\Off [a,b] H H') ⟨[],rfl,.nil,rfl,hP,Off.refl _ _⟩
   (λi zs H' _ _ ⟨L,e,_,hl,P',o'⟩=>⟨SqT.of (o' _ _ (C7 hP hr1) hr1),SqT.of (o' _ _ (C7 hP hs1) hs1),by rw[e,List.length_map,List.length_map,hl];exact Nat.le_refl _⟩) ?_ ?_
  .rintro i x z zs H1 q hx hy ⟨L,rfl,hSL,hLl,P1,o1⟩ hq;obtain⟨row,hrow,hxi⟩:=hI.2 i x hx;obtain⟨sv,hsv,rfl⟩:=L7 hy;have s2:=(Same.refl H1).upd (o:=.tup [x,V.int sv]) hq;have P2:=P1.same s2;have o2:=o1.trans s2.off;have dq:upd H1 q (.tup [x,V.int sv]) q=some (.tup [x,V.int sv]):=A0;generalize upd H1 q (.tup [x,V.int sv])=H2 at P2 o2 dq;obtain⟨bb,rfl,hb⟩:=hxi;obtain⟨r1,r2⟩:=hO.rw row (List.mem_of_getElem? hrow);obtain⟨b1,b2⟩:=hO.sb sv (List.mem_of_getElem? hsv);refine⟨q,_,rfl,SqT.of dq,rfl,_,_,rfl,_,[],rfl,rfl,⟨rfl,λj v e=>?_⟩,?_⟩
   .match j,e with
    |0,e=>cases e
    |1,e=>cases e
    |j+2,e=>exact e
   .refine⟨_,rfl,_,rfl,_,rfl,_,rfl,a,b,n,bb,ns,row,sv,rfl,P2,o2 _ _ (C7 hP hn) hn,o2 _ _ (C7 hP hb) hb,hO.nm,hn7,r1,r2,b1,b2,λws H3 hws P3 f3=>⟨L++[ws],by simp,?_,by simp[hLl],P3,o2.trans f3⟩⟩;rw[List.take_add_one,(List.getElem?_zip_eq_some (z:=(row,sv))).mpr ⟨hrow,hsv⟩];exact hSL.snoc hws
  rintro zs H1 ⟨L,rfl,hSL,hLl,P1,o1⟩ pl hpl;rw[List.length_map,hI.1,hsl,Nat.min_self]at hSL hLl;rw[List.take_of_length_le (by rw[List.length_zip];omega)]at hSL;have fl:H pl=none:=R7 o1 P1 hpl;have s2:=(Same.refl H1).upd (o:=.lst ((L.map (Str.join bk)).map V.str)) hpl;have e2:TxL (upd H1 pl (.lst ((L.map (Str.join bk)).map V.str))) pl L:=A0;have P2:=P1.same s2;have o2:=o1.trans s2.off;generalize upd H1 pl (.lst ((L.map (Str.join bk)).map V.str))=H2 at e2 P2 o2;clear s2 P1 o1 hpl;have ql:=C1 hP fl;dsimp only[A9];have hn2:=o2 _ _ (C7 hP hn) hn;have hc2:=o2 _ _ (C7 hP hc1) hc1;have hp2:=o2 _ _ (C7 hP hp1) hp1;refine⟨_,rfl,_,rfl,true,true,n,c,rfl,⟨_,SqT.of hn2⟩,⟨_,SqT.of hc2⟩,?_⟩;have lcap:(Str.ofString "cap ").length=4:=rfl;have lpri:(Str.ofString "price ").length=6:=rfl;have l00:Str.empty.length=0:=rfl;have lb:(Str.ofString " ").length=1:=rfl;refine a2I (caps:=[]) V.str ovI (xs:=ns) (ys:=caps) (λ_ o=>o.isSome) (λn o=>V.str (Str.join bk [wd "cap",n,C2 (o.getD 0)])) (by omega) (λH' s=>⟨SqT.of (s _ _ hn2),SqT.of (s _ _ hc2)⟩) rfl (λx y H1 Q1 _ _ s1 q=>?_) (λx y H1 Q1 hx1 hy1 ht s1 q=>?_) λH3 pc s3 hpc=>?_
  .refine⟨_,rfl,rfl,_,rfl,?_⟩;cases y with
   |none=>exact q
   |some z=>exact q
  .obtain⟨z,rfl⟩:=Option.isSome_iff_exists.mp ht;obtain⟨z0,z1⟩:=hO.cb z hy1;have hz':z=((z.toNat:Nat):Int):=by omega
   have hf:=(T5 z1).1;have hxl:=((hO.nm.nm x hx1).wg).1;have q0:=q _ (Same.refl _);have l4:(C6 z.toNat).length<=20:=hf;refine⟨_,rfl,by(try simp only[B7]);omega,_,rfl,.inl ⟨_,rfl,by(try simp only[B7]);omega,by(try simp only[B7]);omega,_,rfl,by(try simp only[B7]);omega,_,rfl,.inr ⟨z.toNat,(show V.int z=_ by rw[<-hz']),Nat.lt_of_le_of_lt (show z.toNat<=1000000000000 by unfold topN at z1;omega) (by decide +kernel),by(try simp only[B7]);omega,by(try simp only[B7]);omega,?_⟩⟩⟩;rw[a0f];have e:Str.join bk [wd "cap",x,C2 ((some z).getD 0)]=Str.ofString "cap " ++ x++Str.ofString " " ++ C6 z.toNat:=by
    have e1:Str.ofString "cap "=wd "cap" ++ bk:=by with_unfolding_all rfl
    rw[e1];show wd "cap" ++ bk++(x++bk++C2 z)=wd "cap" ++ bk++x++bk++C2 z;simp only[N5]
   rw[e]at q0;exact q0
  rw[a1q];have fc:H pc=none:=R7 (o2.trans s3.off) (P2.same s3) hpc;have s4:=s3.upd (o:=.lst (((G6 (wd "cap") ns caps).map (Str.join bk)).map V.str)) hpc;have e4:TxL (upd H3 pc (.lst (((G6 (wd "cap") ns caps).map (Str.join bk)).map V.str))) pc (G6 (wd "cap") ns caps):=A0;have P4:=P2.same s4;have o4:=o2.trans s4.off;have e24:TxL (upd H3 pc (.lst (((G6 (wd "cap") ns caps).map (Str.join bk)).map V.str))) pl L:=s4 _ _ e2;generalize upd H3 pc (.lst (((G6 (wd "cap") ns caps).map (Str.join bk)).map V.str))=H4 at e4 P4 o4 e24;clear s3 s4 e2 P2 o2 hpc hn2 hc2 hp2;have qc:=C1 hP fc;dsimp only[A9];refine⟨Nat.zero_le _,λpp hpp=>?_⟩;have fp:H pp=none:=R7 o4 P4 hpp;have s5:=(Same.refl H4).upd (o:=.lst []) hpp;have e5:TxL (upd H4 pp (.lst [])) pp (([]:List (Str×Int)).map Z3):=A0;have P5:=P4.same s5;have o5:=o4.trans s5.off;have e45:TxL (upd H4 pp (.lst [])) pc (G6 (wd "cap") ns caps):=s5 _ _ e4;have e25:TxL (upd H4 pp (.lst [])) pl L:=s5 _ _ e24;have ncp:pc≠pp:=A4 e4 hpp;have nlp:pl≠pp:=A4 e24 hpp;generalize upd H4 pp (.lst [])=H5 at e5 P5 o5 e45 e25;clear s5 e4 e24 P4 o4 hpp;have qp:=C1 hP fp;dsimp only[A9];have hn5:=o5 _ _ (C7 hP hn) hn;have hp5:=o5 _ _ (C7 hP hp1) hp1;refine⟨_,rfl,_,rfl,true,true,n,pr,rfl,⟨_,SqT.of hn5⟩,⟨_,SqT.of hp5⟩,?_⟩;have hpl:=hO.pl;have hndp:=List.pairwise_iff_getElem.mp hO.nm.nd;refine a5H (K:=K) (k1:=true) (k2:=true) (a:=n) (b:=pr) (xs:=ns.map V.str) (zs:=prices.map V.int) (λi σ H'=>∃o10 o11,∃qs:List (Str×Int),σ=[some (.ref a),some (.ref c0),some (.ref n),some (.ref r),some (.ref sd),some (.ref c),some (.ref pr),some (.ref pl),some (.ref pc),some (.ref pp),o10,o11]/\TxL H' pp (qs.map Z3)/\TxL H' pc (G6 (wd "cap") ns caps)/\TxL H' pl L/\(qs.map (·.1)).Sublist (ns.take i)/\(∀q∈qs,0<=q.2/\q.2<=topN)/\(∀j nm y,j<i->ns[j]?=some nm->prices[j]?=some y->(lk qs nm).getD 0=y)/\PotAt H' a b/\Off [a,b] H H') ⟨_,_,[],rfl,e5,e45,e25,by simp,λq hq=>(nomatch hq),λj nm y h=>absurd h (Nat.not_lt_zero j),P5,o5⟩ (λi σ H' _ _ ⟨_,_,_,_,_,_,_,_,_,_,_,o⟩=>⟨SqT.of (o _ _ (C7 hP hn) hn),SqT.of (o _ _ (C7 hP hp1) hp1)⟩) ?_ ?_
  .rintro i x z σ H6 p hx hz1 ⟨o10,o11,qs,rfl,c1,c2,c3,hsub,hqb,hlk,P6,o6⟩ hp;obtain⟨nm,hnm1,rfl⟩:=L7 hx;obtain⟨y,hy1,rfl⟩:=L7 hz1;have hi:i<ns.length:=(List.getElem?_eq_some_iff.mp hnm1).1;have s7:=(Same.refl H6).upd (o:=.tup [V.str nm,V.int y]) hp;have d1:TxL (upd H6 p (.tup [V.str nm,V.int y])) pp (qs.map Z3):=s7 _ _ c1;have d2:TxL (upd H6 p (.tup [V.str nm,V.int y])) pc (G6 (wd "cap") ns caps):=s7 _ _ c2;have d3:TxL (upd H6 p (.tup [V.str nm,V.int y])) pl L:=s7 _ _ c3;have dp:upd H6 p (.tup [V.str nm,V.int y]) p=some (.tup [V.str nm,V.int y]):=A0;have P7:=P6.same s7;have o7:=o6.trans s7.off;generalize upd H6 p (.tup [V.str nm,V.int y])=H7 at d1 d2 d3 dp P7 o7;refine⟨p,_,rfl,SqT.of dp,rfl,_,_,rfl,_,[],rfl,rfl,?_⟩;dsimp only[A9];obtain⟨y1,y2⟩:=hO.pb y (List.mem_of_getElem? hy1);have hno:nm∉qs.map (·.1):=λz=>by
    obtain⟨j,hj⟩:=List.getElem?_of_mem (hsub.mem z);have hji:j<i:=by have:=(List.getElem?_eq_some_iff.mp hj).1;rw[List.length_take]at this;omega
    rw[List.getElem?_take,if_pos hji]at hj;obtain⟨g1,g2⟩:=List.getElem?_eq_some_iff.mp hj;obtain⟨g3,g4⟩:=List.getElem?_eq_some_iff.mp hnm1;exact hndp j i g1 g3 hji (by rw[g2,g4])
   have hql:qs.length<=7:=by
    have:=hsub.length_le;rw[List.length_map,List.length_take]at this;omega
   have hyn:y=((y.toNat:Nat):Int):=by omega
   have hlt:y.toNat<10 ^ 570:=Nat.lt_of_le_of_lt (show y.toNat<=1000000000000 by unfold topN at y2;omega) (by decide +kernel);have hnl:=((hO.nm.nm nm (List.mem_of_getElem? hnm1)).wg).1;have l4:(C6 y.toNat).length<=20:=(T5 y2).1;have app:∀{H8:Hp}{D:Ends},TxL H8 pp (qs.map Z3)->TxL H8 pc (G6 (wd "cap") ns caps)->TxL H8 pl L->PotAt H8 a b->Off [a,b] H H8->(∀H9,(∃o10 o11,∃qs:List (Str×Int),([some (V.ref a),some (V.ref c0),some (V.ref n),some (V.ref r),some (V.ref sd),some (V.ref c),some (V.ref pr),some (V.ref pl),some (V.ref pc),some (V.ref pp),some (V.str nm),some (V.int y)]:L2.St)=[some (V.ref a),some (V.ref c0),some (V.ref n),some (V.ref r),some (V.ref sd),some (V.ref c),some (V.ref pr),some (V.ref pl),some (V.ref pc),some (V.ref pp),o10,o11]/\TxL H9 pp (qs.map Z3)/\TxL H9 pc (G6 (wd "cap") ns caps)/\TxL H9 pl L/\(qs.map (·.1)).Sublist (ns.take (i+1))/\(∀q∈qs,0<=q.2/\q.2<=topN)/\(∀j nm y,j<i+1->ns[j]?=some nm->prices[j]?=some y->(lk qs nm).getD 0=y)/\PotAt H9 a b/\Off [a,b] H H9)->D.nx [some (V.ref a),some (V.ref c0),some (V.ref n),some (V.ref r),some (V.ref sd),some (V.ref c),some (V.ref pr),some (V.ref pl),some (V.ref pc),some (V.ref pp),some (V.str nm),some (V.int y)] H9) ->
     a5j (tBM K "list" a0P (Y6 9) (a0A (tFs (b3p (tC (V.str (Str.ofString "price "))) (b3q (Y6 10) (b3p (tC (V.str (Str.ofString " "))) (b3q (Y6 11) b4N))))) a0l)) D [some (V.ref a),some (V.ref c0),some (V.ref n),some (V.ref r),some (V.ref sd),some (V.ref c),some (V.ref pr),some (V.ref pl),some (V.ref pc),some (V.ref pp),some (V.str nm),some (V.int y)] H8:=by
    intro H8 D g1 g2 g3 P8 o8 hD;refine⟨_,rfl,.inl ⟨rfl,_,SqL.of g1⟩,_,rfl,by(try simp only[B7]);omega,_,rfl,.inl ⟨_,rfl,by(try simp only[B7]);omega,by(try simp only[B7]);omega,_,rfl,by(try simp only[B7]);omega,_,rfl,.inr ⟨y.toNat,(show V.int y=_ by rw[<-hyn]),hlt,by(try simp only[B7]);omega,by(try simp only[B7]);omega,?_⟩⟩⟩;rw[a0f];have e:Str.join bk (Z3 (nm,y))=Str.ofString "price " ++ nm++Str.ofString " " ++ C6 y.toNat:=by
     have e1:Str.ofString "price "=wd "price" ++ bk:=by with_unfolding_all rfl
     rw[e1];show wd "price" ++ bk++(nm++bk++C2 y)=wd "price" ++ bk++nm++bk++C2 y;simp only[N5]
    rw[<-e];refine⟨pp,_,_,rfl,rfl,g1,by simp only[List.length_map];omega,?_⟩;refine hD _ ⟨_,_,qs++[(nm,y)],rfl,?_,?_,?_,?_,λq hq=>?_,λj nm' y' hj h1' h2'=>?_,J0 P8 qp,U5 o8 fp⟩
    .show upd _ _ _ _=_;rw[A0];simp
    .show upd _ _ _ _=_;rw[A6 ncp];exact g2
    .show upd _ _ _ _=_;rw[A6 nlp];exact g3
    .rw[List.map_append,List.take_add_one,hnm1];exact hsub.append (List.Sublist.refl _)
    .rcases List.mem_append.mp hq with z|z
     .exact hqb q z
     .rw[List.mem_singleton.mp z];exact⟨y1,y2⟩
    .rw[a5v];by_cases e2:j=i
     .subst e2;rw[hnm1]at h1';cases h1';rw[hy1]at h2';cases h2';rw[if_neg hno,if_pos rfl];rfl
     .have hold:=hlk j nm' y' (by omega) h1' h2';by_cases e3:nm'∈qs.map (·.1)
      .rw[if_pos e3];exact hold
      .rw[if_neg e3];rw[Z4 e3]at hold;rw[if_neg λz=>?_]
       .exact hold
       .obtain⟨g1',g2'⟩:=List.getElem?_eq_some_iff.mp h1';obtain⟨g3',g4'⟩:=List.getElem?_eq_some_iff.mp hnm1;exact hndp j i g1' g3' (by omega) (by rw[g2',g4',z])
   refine⟨_,rfl,_,_,rfl,rfl,_,rfl,C9 (λe=>?_) (λe=>?_)⟩
   .exact app d1 d2 d3 P7 o7 λH9 h=>h
   .have e:¬y > 0:=λz=>e (decide_eq_true z);refine⟨_,rfl,a,b,2,rfl,P7,by decide,by decide +kernel,λr8 H8 _ _ P8 f8=>⟨rfl,_,rfl,C9 (λe=>?_) (λe2=>?_)⟩⟩
    .exact app (f8 _ _ qp d1) (f8 _ _ qc d2) (f8 _ _ ql d3) P8 (o7.trans f8) λH9 h=>h
    .refine⟨_,_,qs,rfl,f8 _ _ qp d1,f8 _ _ qc d2,f8 _ _ ql d3,hsub.trans (List.take_sublist_take_left (by omega)),hqb,λj nm' y' hj h1' h2'=>?_,P8,o7.trans f8⟩;by_cases e3:j=i
     .subst e3;rw[hnm1]at h1';cases h1';rw[hy1]at h2';cases h2';rw[Z4 hno];show(0:Int)=y;omega
     .exact hlk j nm' y' (by omega) h1' h2'
  .rintro σ H6 ⟨o10,o11,qs,rfl,c1,c2,c3,hsub,hqb,hlk,P6,o6⟩;rw[List.length_map,List.length_map,hpl,Nat.min_self]at hsub hlk;rw[List.take_length]at hsub;have hn6:=o6 _ _ (C7 hP hn) hn;have hjn:(Str.join bk ns).length<=147:=by
    have:=K2 (c:=32) (B:=20) (ys:=ns) λy hy=>((hO.nm.nm y hy).wg).1;exact Nat.le_trans this (Nat.mul_le_mul hn7 (Nat.le_refl 21))
   refine⟨rfl,rfl,_,rfl,bk,n,ns,20,rfl,rfl,SqT.of hn6,λy hy=>((hO.nm.nm y hy).wg).1,by rw[show bk.length=1 from rfl];omega,by omega,_,_,rfl,rfl,by show 3+_<=_;omega,by show 1<=sizeLine;omega,λq1 hq1=>?_⟩;rw[a5t h0];have s7:=(Same.refl H6).upd (o:=.lst [V.str (Str.join bk (wd "of" :: ns))]) hq1;have e7:upd H6 q1 (.lst [V.str (Str.join bk (wd "of" :: ns))]) q1=some (.lst [V.str (Str.join bk (wd "of" :: ns))]):=A0;have q1n:=C1 P6 hq1;generalize upd H6 q1 (.lst [V.str (Str.join bk (wd "of" :: ns))])=H7 at s7 e7;have d1:TxL H7 pp (qs.map Z3):=s7 _ _ c1;have d2:TxL H7 pc (G6 (wd "cap") ns caps):=s7 _ _ c2;have d3:TxL H7 pl L:=s7 _ _ c3;refine⟨_,rfl,_,rfl,_,rfl,_,rfl,rfl,pc,_,rfl,SqL.of d2,λpv hpv=>?_⟩;have hrev:(((G6 (wd "cap") ns caps).map (Str.join bk)).map V.str).reverse=((((D8 ns caps).reverse.map a0h).map (Str.join bk)).map V.str):=by
    rw[<-List.map_reverse,<-List.map_reverse,G6,<-List.map_reverse];rfl
   rw[hrev];have s8:=s7.upd (o:=.lst ((((D8 ns caps).reverse.map a0h).map (Str.join bk)).map V.str)) hpv;have k8:=(Same.refl H7).upd (o:=.lst ((((D8 ns caps).reverse.map a0h).map (Str.join bk)).map V.str)) hpv;have e8:TxL (upd H7 pv (.lst ((((D8 ns caps).reverse.map a0h).map (Str.join bk)).map V.str))) pv ((D8 ns caps).reverse.map a0h):=A0;have e78:=k8 _ _ e7;have d18:TxL (upd H7 pv (.lst ((((D8 ns caps).reverse.map a0h).map (Str.join bk)).map V.str))) pp (qs.map Z3):=k8 _ _ d1;have d38:TxL (upd H7 pv (.lst ((((D8 ns caps).reverse.map a0h).map (Str.join bk)).map V.str))) pl L:=k8 _ _ d3;generalize upd H7 pv (.lst ((((D8 ns caps).reverse.map a0h).map (Str.join bk)).map V.str))=H8 at s8 e8 e78 d18 d38;refine⟨_,rfl,by show 3<=sizeLine;omega,λq9 hq9=>?_⟩;have s9:=s8.upd (o:=.lst [V.ref pl,V.ref pv,V.ref pp]) hq9;have k9:=(Same.refl H8).upd (o:=.lst [V.ref pl,V.ref pv,V.ref pp]) hq9;have e9:upd H8 q9 (.lst [V.ref pl,V.ref pv,V.ref pp]) q9=some (.lst [V.ref pl,V.ref pv,V.ref pp]):=A0;have e89:TxL (upd H8 q9 (.lst [V.ref pl,V.ref pv,V.ref pp])) pv ((D8 ns caps).reverse.map a0h):=k9 _ _ e8;have e79:=k9 _ _ e78;have d19:TxL (upd H8 q9 (.lst [V.ref pl,V.ref pv,V.ref pp])) pp (qs.map Z3):=k9 _ _ d18;have d39:TxL (upd H8 q9 (.lst [V.ref pl,V.ref pv,V.ref pp])) pl L:=k9 _ _ d38;generalize upd H8 q9 (.lst [V.ref pl,V.ref pv,V.ref pp])=H9 at s9 e9 e89 e79 d19 d39;have hkl:(D8 ns caps).length<=7:=by
    have:=(D5 ns caps).length_le;rw[List.length_map]at this;omega
   have hql:qs.length<=7:=by
    have:=hsub.length_le;rw[List.length_map]at this;omega
   have P9:=P6.same s9;refine⟨a,b,q9,pl,pv,pp,L,(D8 ns caps).reverse.map a0h,qs.map Z3,rfl,P9,e9,d39,e89,d19,by simp only[List.length_map,List.length_reverse];omega,λp10 O H10 hMg hT10 fp10 P10 f10=>?_⟩;have hperm:(D8 ns caps).Perm (D8 ns caps).reverse:=(List.reverse_perm _).symm;have hkn:((D8 ns caps).map (·.1)).Nodup:=(D5 ns caps).nodup hO.nm.nd;have hcs:NumOk ns (D8 ns caps).reverse:=⟨(hperm.map _).nodup_iff.mp hkn,λq hq=>by
    have hq':=List.mem_reverse.mp hq;exact⟨(D5 ns caps).mem (List.mem_map.mpr ⟨q,hq',rfl⟩),a0n hO.cb q hq'⟩⟩
   have hps:NumOk ns qs:=⟨hsub.nodup hO.nm.nd,λq hq=>⟨hsub.mem (List.mem_map.mpr ⟨q,hq,rfl⟩),hqb q hq⟩⟩;obtain⟨hrd,hwl,hll⟩:=b4D hO.nm hO.n1 hn7 hSL (by rw[List.length_zip];omega) hcs hps hMg;have hOl:O.length<=30:=by rw[List.length_cons]at hll;omega
   refine⟨q1,p10,_,_,rfl,rfl,f10 _ _ q1n e79,hT10,by show 1+_<=_;rw[List.length_map,List.length_map];omega,λp11 hp11=>?_⟩;have s11:=(Same.refl H10).upd (o:=.lst ([V.str (Str.join bk (wd "of" :: ns))]++(O.map (Str.join bk)).map V.str)) hp11;have e11:upd H10 p11 (.lst ([V.str (Str.join bk (wd "of" :: ns))]++(O.map (Str.join bk)).map V.str)) p11=some (.lst ((lnW ((wd "of" :: ns)::O)).map V.str)):=by
    rw[A0];rfl
   generalize upd H10 p11 (.lst ([V.str (Str.join bk (wd "of" :: ns))]++(O.map (Str.join bk)).map V.str))=H11 at s11 e11;have hlen:=a2U hwl (by omega);refine⟨lf,p11,lnW ((wd "of" :: ns)::O),10000,rfl,rfl,SqL.of e11,λy hy=>?_,?_,by show(ptW _).length<=_;omega,?_⟩
   .obtain⟨ws,hws,rfl⟩:=List.mem_map.mp hy;exact(hwl ws hws).le
   .rw[show(lnW ((wd "of" :: ns)::O)).length=((wd "of" :: ns)::O).length by simp[lnW],show lf.length=1 from rfl];omega
   refine k _ _ H11 hrd rfl (List.map_fst_zip (by omega)) (List.map_snd_zip (by omega)) ?_ ?_ hwl (by simp) hll (P10.same s11) (((o6.trans s9.off).trans f10).trans s11.off)
   .show ns.map (lk (D8 ns caps).reverse)=caps;rw[show ns.map (lk (D8 ns caps).reverse)=ns.map (lk (D8 ns caps))from List.map_congr_left λx _=>b0i hkn hperm x];exact a0Q ns caps hO.nm.nd hO.cl
   .show ns.map (λn=>(lk qs n).getD 0)=prices;refine List.ext_getElem (by rw[List.length_map];omega) λj h1 h2=>?_;rw[List.length_map]at h1;rw[List.getElem_map];exact hlk j _ _ h1 (List.getElem?_eq_getElem h1) (List.getElem?_eq_getElem h2)
end
end K46
namespace K46
open PySem PySem.Spec PyProof.Rows L2
section
variable {P:Program}{w:World}{K:PySem.W.Frag}{mg:Str->Option Value}{base:Heap}
theorem sc_law:FnScope ["_law_script","_law_pot_here","_law_turn","_law_system","_law_shown","_law_again","_law_text","_law_told"] ["_law_script"] (A3 a1i):=⟨rfl,rfl,rfl,by decide +kernel,rfl,by decide +kernel,by decide +kernel⟩
theorem b2N{f:Addr}{fd:FuncData}(F':Fun K "law" "law" a1i f fd)(T:Tx mg)(O__law_pot:Ok P w K mg base "_law_pot" 1 ["_law_script"] (b1b K))(O__law_drawn:Ok P w K mg base "_law_drawn" 4 ["_law_pot_here"] b4g)(O__law_otherwise:Ok P w K mg base "_law_otherwise" 5 ["_law_pot_here","_law_system"] b1c)(O__law_same:Ok P w K mg base "_law_same" 5 ["_law_found","_law_due"] (a7n 4))(O_show_system:Ok P w K mg base "show_system" 4 ["system"] b0U)(O_read_system:Ok P w K mg base "read_system" 10 ["text"] b0Y) :
  FnOk P w K mg base CX0 12 f fd ["_law_script"] (a5l K):=by
 refine F'.okJ sc_law (λvs H Q E h=>?_) (λcdv A outer s H vs Q E hr h=>?_)
 .obtain⟨a,ns,rfl,_⟩:=h;rfl
 .obtain⟨a0,ns,rfl,hS,hl,kk⟩:=h;refine⟨_,(A1 (B3 (i:=1) sc_law.nd rfl (Or.inl rfl) (A7 O__law_pot (hr.mono (by omega)) rfl (jaC (jv 0) jaN)))
 (A1 (R3 (R9 rfl T.b_range (jaC A2 jaN)) (A8 (i:=2) sc_law.nd rfl (Or.inl rfl))
 (A1 (B3 (i:=3) sc_law.nd rfl (Or.inl rfl) (A7 O__law_drawn (hr.mono (by omega)) rfl (jaC (jv 1) jaN)))
 (A1 (B3 (i:=4) sc_law.nd rfl (Or.inl rfl) (A7 O_show_system (hr.mono (by omega)) rfl (jaC (jv 3) jaN)))
 (A5 (R3 (R9 rfl T.b_range (jaC A2 jaN)) (A8 (i:=5) sc_law.nd rfl (Or.inl rfl))
 (A1 (B3 (i:=6) sc_law.nd rfl (Or.inl rfl) (A7 O__law_otherwise (hr.mono (by omega)) rfl (jaC (jv 1) (jaC (jv 3) jaN))))
 (A1 (B3 (i:=7) sc_law.nd rfl (Or.inl rfl) (A7 O_read_system (hr.mono (by omega)) rfl (jaC (jv 6) jaN)))
 (A1 (C0 (Z6 (T6 (V1 (T0 K (A7 O__law_same (hr.mono (by omega)) rfl (jaC (jv 7) (jaC (jv 3) jaN))))) (R1 (V1 (T0 K (A7 O__law_same (hr.mono (by omega)) rfl (jaC (A7 O_read_system (hr.mono (by omega)) rfl (jaC (jv 4) jaN)) (jaC (jv 3) jaN))))))))
 (A5 (B0 a0L))
 B6)
 (A5 (C0 (a3Y (A7 O_show_system (hr.mono (by omega)) rfl (jaC (jv 7) jaN)) (jv 4))
 (A5 (B0 a0L))
 B6))))))))))
 (A5 (B0 a0L)))),?_⟩
  have hz:(3000:Nat)<=sizeLine:=by rw[sizeLine_eq];decide
  refine⟨_,rfl,a0,ns,rfl,hS,by omega,λa b H1 _ _ hP1 _=>?_⟩;dsimp only[A9];refine⟨3,rfl,by decide,by decide,?_⟩;refine W2 (lo:=0) (n:=3) (λi σ H'=>∃o2 o3 o4 o5 o6 o7,σ=[some (.ref a0),some (.ref a),o2,o3,o4,o5,o6,o7]/\PotAt H' a b) ⟨_,_,_,_,_,_,rfl,hP1⟩ ?_ ?_
  .rintro i σ H2 hi ⟨o2,o3,o4,o5,o6,o7,rfl,P2⟩;dsimp only[A9];refine⟨_,rfl,a,b,rfl,P2,λv xs rows sides caps prices H3 hv ho P3 _=>?_⟩;dsimp only[A9];refine⟨_,rfl,v,xs,rows,sides,caps,prices,rfl,hv,ho,λH4 s4=>?_⟩;dsimp only[A9];have P4:=P3.same s4;have hv4:=hv.same s4;refine⟨2,rfl,by decide,by decide,?_⟩;refine W2 (lo:=0) (n:=2) (λi σ H'=>∃o2 o5 o6 o7,σ=[some (.ref a0),some (.ref a),o2,some v,some (.str (ptW (a0m xs rows sides caps prices))),o5,o6,o7]/\PotAt H' a b/\SysAt H' v xs rows sides caps prices) ⟨_,_,_,_,rfl,P4,hv4⟩ ?_ ?_
   .rintro j σ H5 hj ⟨o2,o5,o6,o7,rfl,P5,hv5⟩;dsimp only[A9];refine⟨_,rfl,_,rfl,a,b,v,xs,rows,sides,caps,prices,rfl,P5,hv5,ho,λL d H6 hd n1 n2 n3 n4 n5 hw hne hll P6 f6=>?_⟩;dsimp only[A9];have hv6:=hv5.pot P5 f6;refine⟨_,rfl,L,d,rfl,hne,hw,by omega,hd,λv7 H7 hv7 s7=>?_⟩;rw[n1,n2,n3,n4,n5]at hv7;dsimp only[A9];have hv7':=hv6.same s7;refine⟨_,rfl,_,rfl,v7,v,rfl,SD.sys hv7 hv7' ho,λH8 s8=>⟨_,rfl,L6 ?_⟩⟩;obtain⟨d',hd',m1,m2,m3,m4,m5⟩:=b1L ho;obtain⟨hw',hwl'⟩:=a2i ho;refine⟨_,rfl,a0m xs rows sides caps prices,d',rfl,(by unfold a0m;simp),hw',by omega,hd',λv9 H9 hv9 s9=>?_⟩;rw[m1,m2,m3,m4,m5]at hv9;have s89:=s8.trans s9;refine⟨_,rfl,v9,v,rfl,SD.sys hv9 (hv7'.same s89) ho,λH10 s10=>⟨_,rfl,L6 ?_⟩⟩;have s810:=s89.trans s10;refine⟨_,rfl,v7,xs,rows,sides,caps,prices,rfl,hv7.same s810,ho,λH11 s11=>⟨_,rfl,rfl,_,rfl,?_⟩⟩;rw[decide_eq_true rfl];have s711:=(s7.trans s810).trans s11;exact L6 ⟨_,_,_,_,rfl,P6.same s711,hv6.same s711⟩
   .rintro σ H5 ⟨o2,o5,o6,o7,rfl,P5,_⟩;exact⟨_,_,_,_,_,_,rfl,P5⟩
  .rintro σ H2 ⟨o2,o3,o4,o5,o6,o7,rfl,P2⟩;exact kk H2
end
open PySem.W
theorem all_mk{l:PySem.W.OpenLaw}{w:World}{K:PySem.W.Frag}{h:Heap}{mg:Str->Option Value}{fa:Addr}(X:K.In h)(G:h.Ns mainGlobals mg)(hfa:mg "law"=some (.ref fa))
 (a1:nsIn K mainGlobals "is_name"=some (some (.ref f1))) (l1:FnL K f1 "is_name" "is_name" V6 o1 d1 s1 v1 x1 p1 n1 c1 t1) (c_1:codeIn K c1 "is_name"=true) (k1:keepIn K (.ref f1)=true)
 (a2:nsIn K mainGlobals "is_written"=some (some (.ref f2))) (l2:FnL K f2 "is_written" "is_written" M8 o2 d2 s2 v2 x2 p2 n2 c2 t2) (c_2:codeIn K c2 "is_written"=true) (k2:keepIn K (.ref f2)=true)
 (a3:nsIn K mainGlobals "read_figures"=some (some (.ref f3))) (l3:FnL K f3 "read_figures" "read_figures" J9 o3 d3 s3 v3 x3 p3 n3 c3 t3) (c_3:codeIn K c3 "read_figures"=true) (k3:keepIn K (.ref f3)=true)
 (a4:nsIn K mainGlobals "read_number"=some (some (.ref f4))) (l4:FnL K f4 "read_number" "read_number" K8 o4 d4 s4 v4 x4 p4 n4 c4 t4) (c_4:codeIn K c4 "read_number"=true) (k4:keepIn K (.ref f4)=true)
 (a5:nsIn K mainGlobals "parted"=some (some (.ref f5))) (l5:FnL K f5 "parted" "parted" Z0 o5 d5 s5 v5 x5 p5 n5 c5 t5) (c_5:codeIn K c5 "parted"=true) (k5:keepIn K (.ref f5)=true)
 (a6:nsIn K mainGlobals "read_term"=some (some (.ref f6))) (l6:FnL K f6 "read_term" "read_term" O4 o6 d6 s6 v6 x6 p6 n6 c6 t6) (c_6:codeIn K c6 "read_term"=true) (k6:keepIn K (.ref f6)=true)
 (a7:nsIn K mainGlobals "read_terms"=some (some (.ref f7))) (l7:FnL K f7 "read_terms" "read_terms" M7 o7 d7 s7 v7 x7 p7 n7 c7 t7) (c_7:codeIn K c7 "read_terms"=true) (k7:keepIn K (.ref f7)=true)
 (a8:nsIn K mainGlobals "read_sum"=some (some (.ref f8))) (l8:FnL K f8 "read_sum" "read_sum" S5 o8 d8 s8 v8 x8 p8 n8 c8 t8) (c_8:codeIn K c8 "read_sum"=true) (k8:keepIn K (.ref f8)=true)
 (a9:nsIn K mainGlobals "take_number"=some (some (.ref f9))) (l9:FnL K f9 "take_number" "take_number" K5 o9 d9 s9 v9 x9 p9 n9 c9 t9) (c_9:codeIn K c9 "take_number"=true) (k9:keepIn K (.ref f9)=true)
 (a10:nsIn K mainGlobals "take_all"=some (some (.ref f10))) (l10:FnL K f10 "take_all" "take_all" S3 o10 d10 s10 v10 x10 p10 n10 c10 t10) (c_10:codeIn K c10 "take_all"=true) (k10:keepIn K (.ref f10)=true)
 (a11:nsIn K mainGlobals "read_system"=some (some (.ref f11))) (l11:FnL K f11 "read_system" "read_system" K7 o11 d11 s11 v11 x11 p11 n11 c11 t11) (c_11:codeIn K c11 "read_system"=true) (k11:keepIn K (.ref f11)=true)
 (a12:nsIn K mainGlobals "show_term"=some (some (.ref f12))) (l12:FnL K f12 "show_term" "show_term" O3 o12 d12 s12 v12 x12 p12 n12 c12 t12) (c_12:codeIn K c12 "show_term"=true) (k12:keepIn K (.ref f12)=true)
 (a13:nsIn K mainGlobals "show_terms"=some (some (.ref f13))) (l13:FnL K f13 "show_terms" "show_terms" M6 o13 d13 s13 v13 x13 p13 n13 c13 t13) (c_13:codeIn K c13 "show_terms"=true) (k13:keepIn K (.ref f13)=true)
 (a14:nsIn K mainGlobals "show_row"=some (some (.ref f14))) (l14:FnL K f14 "show_row" "show_row" S4 o14 d14 s14 v14 x14 p14 n14 c14 t14) (c_14:codeIn K c14 "show_row"=true) (k14:keepIn K (.ref f14)=true)
 (a15:nsIn K mainGlobals "show_numbers"=some (some (.ref f15))) (l15:FnL K f15 "show_numbers" "show_numbers" J8 o15 d15 s15 v15 x15 p15 n15 c15 t15) (c_15:codeIn K c15 "show_numbers"=true) (k15:keepIn K (.ref f15)=true)
 (a16:nsIn K mainGlobals "show_system"=some (some (.ref f16))) (l16:FnL K f16 "show_system" "show_system" K6 o16 d16 s16 v16 x16 p16 n16 c16 t16) (c_16:codeIn K c16 "show_system"=true) (k16:keepIn K (.ref f16)=true)
 (a17:nsIn K mainGlobals "_law_pot"=some (some (.ref f17))) (l17:FnL K f17 "_law_pot" "_law_pot" S8 o17 d17 s17 v17 x17 p17 n17 c17 t17) (c_17:codeIn K c17 "_law_pot"=true) (k17:keepIn K (.ref f17)=true)
 (a18:nsIn K mainGlobals "_law_next"=some (some (.ref f18))) (l18:FnL K f18 "_law_next" "_law_next" O7 o18 d18 s18 v18 x18 p18 n18 c18 t18) (c_18:codeIn K c18 "_law_next"=true) (k18:keepIn K (.ref f18)=true)
 (a19:nsIn K mainGlobals "_law_of"=some (some (.ref f19))) (l19:FnL K f19 "_law_of" "_law_of" V7 o19 d19 s19 v19 x19 p19 n19 c19 t19) (c_19:codeIn K c19 "_law_of"=true) (k19:keepIn K (.ref f19)=true)
 (a20:nsIn K mainGlobals "_law_names"=some (some (.ref f20))) (l20:FnL K f20 "_law_names" "_law_names" M9 o20 d20 s20 v20 x20 p20 n20 c20 t20) (c_20:codeIn K c20 "_law_names"=true) (k20:keepIn K (.ref f20)=true)
 (a21:nsIn K mainGlobals "_law_great"=some (some (.ref f21))) (l21:FnL K f21 "_law_great" "_law_great" N0 o21 d21 s21 v21 x21 p21 n21 c21 t21) (c_21:codeIn K c21 "_law_great"=true) (k21:keepIn K (.ref f21)=true)
 (a22:nsIn K mainGlobals "_law_drawn"=some (some (.ref f22))) (l22:FnL K f22 "_law_drawn" "_law_drawn" N1 o22 d22 s22 v22 x22 p22 n22 c22 t22) (c_22:codeIn K c22 "_law_drawn"=true) (k22:keepIn K (.ref f22)=true)
 (a23:nsIn K mainGlobals "_law_same"=some (some (.ref f23))) (l23:FnL K f23 "_law_same" "_law_same" O6 o23 d23 s23 v23 x23 p23 n23 c23 t23) (c_23:codeIn K c23 "_law_same"=true) (k23:keepIn K (.ref f23)=true)
 (a24:nsIn K mainGlobals "_law_term"=some (some (.ref f24))) (l24:FnL K f24 "_law_term" "_law_term" O5 o24 d24 s24 v24 x24 p24 n24 c24 t24) (c_24:codeIn K c24 "_law_term"=true) (k24:keepIn K (.ref f24)=true)
 (a25:nsIn K mainGlobals "_law_put"=some (some (.ref f25))) (l25:FnL K f25 "_law_put" "_law_put" S7 o25 d25 s25 v25 x25 p25 n25 c25 t25) (c_25:codeIn K c25 "_law_put"=true) (k25:keepIn K (.ref f25)=true)
 (a26:nsIn K mainGlobals "_law_half"=some (some (.ref f26))) (l26:FnL K f26 "_law_half" "_law_half" O8 o26 d26 s26 v26 x26 p26 n26 c26 t26) (c_26:codeIn K c26 "_law_half"=true) (k26:keepIn K (.ref f26)=true)
 (a27:nsIn K mainGlobals "_law_sum"=some (some (.ref f27))) (l27:FnL K f27 "_law_sum" "_law_sum" S6 o27 d27 s27 v27 x27 p27 n27 c27 t27) (c_27:codeIn K c27 "_law_sum"=true) (k27:keepIn K (.ref f27)=true)
 (a28:nsIn K mainGlobals "_law_mingled"=some (some (.ref f28))) (l28:FnL K f28 "_law_mingled" "_law_mingled" K0 o28 d28 s28 v28 x28 p28 n28 c28 t28) (c_28:codeIn K c28 "_law_mingled"=true) (k28:keepIn K (.ref f28)=true)
 (a29:nsIn K mainGlobals "_law_otherwise"=some (some (.ref f29))) (l29:FnL K f29 "_law_otherwise" "_law_otherwise" G2 o29 d29 s29 v29 x29 p29 n29 c29 t29) (c_29:codeIn K c29 "_law_otherwise"=true) (k29:keepIn K (.ref f29)=true)
 (a30:nsIn K mainGlobals "law"=some (some (.ref f30))) (l30:FnL K f30 "law" "law" a1i o30 d30 s30 v30 x30 p30 n30 c30 t30) (c_30:codeIn K c30 "law"=true) (k30:keepIn K (.ref f30)=true)
  (z1:PySem.W.nsIn K mainGlobals "ValueError"=some none) (z2:PySem.W.nsIn K mainGlobals "abs"=some none) (z3:PySem.W.nsIn K mainGlobals "all"=some none) (z4:PySem.W.nsIn K mainGlobals "bool"=some none) (z5:PySem.W.nsIn K mainGlobals "enumerate"=some none) (z6:PySem.W.nsIn K mainGlobals "int"=some none) (z7:PySem.W.nsIn K mainGlobals "isinstance"=some none) (z8:PySem.W.nsIn K mainGlobals "len"=some none) (z9:PySem.W.nsIn K mainGlobals "list"=some none) (z10:PySem.W.nsIn K mainGlobals "max"=some none) (z11:PySem.W.nsIn K mainGlobals "min"=some none) (z12:PySem.W.nsIn K mainGlobals "range"=some none) (z13:PySem.W.nsIn K mainGlobals "set"=some none) (z14:PySem.W.nsIn K mainGlobals "str"=some none) (z15:PySem.W.nsIn K mainGlobals "tuple"=some none) (z16:PySem.W.nsIn K mainGlobals "zip"=some none)
  {D_Draft:Addr}(aD_Draft:PySem.W.nsIn K mainGlobals "Draft"=some (some (.ref D_Draft))) {t_FIGURES:Tok}(aS_FIGURES:PySem.W.nsIn K mainGlobals "FIGURES"=some (some (.str (Str.ofString "0123456789") t_FIGURES))) {t_LETTERS:Tok}(aS_LETTERS:PySem.W.nsIn K mainGlobals "LETTERS"=some (some (.str (Str.ofString "abcdefghijklmnopqrstuvwxyz") t_LETTERS))) {t_TOP:Tok}(aS_TOP:PySem.W.nsIn K mainGlobals "TOP"=some (some (.int 1000000000000 t_TOP))) (pg_Draft:PySem.W.plainGet K D_Draft Str.empty=true) (hd_Draft:PySem.W.hasDictIn K D_Draft=true) (po_Draft:PySem.W.plainOver K D_Draft=true) (sa_Draft:PySem.W.findIn K (.ref D_Draft) "__setattr__"=some (some (.builtin "object.__setattr__"))) (mk_Draft:PySem.W.makesIn K D_Draft=true) (kc_Draft:PySem.W.keepIn K (.ref D_Draft)=true) (n_Draft_names:PySem.W.findIn K (.ref D_Draft) "names"=some none) (n_Draft_rows:PySem.W.findIn K (.ref D_Draft) "rows"=some none) (n_Draft_sides:PySem.W.findIn K (.ref D_Draft) "sides"=some none) (n_Draft_caps:PySem.W.findIn K (.ref D_Draft) "caps"=some none) (n_Draft_prices:PySem.W.findIn K (.ref D_Draft) "prices"=some none) (a_Draft___init__:findIn K (.ref D_Draft) "__init__"=some (some (.ref f_Draft___init__))) (i_Draft___init__:isFn K (.ref f_Draft___init__)=true) (l_Draft___init__:FnL K f_Draft___init__ "__init__" "Draft.__init__" G4 o_Draft___init__ d_Draft___init__ s0_Draft___init__ v_Draft___init__ x_Draft___init__ p_Draft___init__ n0_Draft___init__ c0_Draft___init__ t_Draft___init__) (c_Draft___init__:codeIn K c0_Draft___init__ "Draft.__init__"=true) (k_Draft___init__:keepIn K (.ref f_Draft___init__)=true) (a_Draft_take:findIn K (.ref D_Draft) "take"=some (some (.ref f_Draft_take))) (i_Draft_take:isFn K (.ref f_Draft_take)=true) (l_Draft_take:FnL K f_Draft_take "take" "Draft.take" N2 o_Draft_take d_Draft_take s0_Draft_take v_Draft_take x_Draft_take p_Draft_take n0_Draft_take c0_Draft_take t_Draft_take) (c_Draft_take:codeIn K c0_Draft_take "Draft.take"=true) (k_Draft_take:keepIn K (.ref f_Draft_take)=true) (a_Draft_take_names:findIn K (.ref D_Draft) "take_names"=some (some (.ref f_Draft_take_names))) (i_Draft_take_names:isFn K (.ref f_Draft_take_names)=true) (l_Draft_take_names:FnL K f_Draft_take_names "take_names" "Draft.take_names" E1 o_Draft_take_names d_Draft_take_names s0_Draft_take_names v_Draft_take_names x_Draft_take_names p_Draft_take_names n0_Draft_take_names c0_Draft_take_names t_Draft_take_names) (c_Draft_take_names:codeIn K c0_Draft_take_names "Draft.take_names"=true) (k_Draft_take_names:keepIn K (.ref f_Draft_take_names)=true) (a_Draft_take_sum:findIn K (.ref D_Draft) "take_sum"=some (some (.ref f_Draft_take_sum))) (i_Draft_take_sum:isFn K (.ref f_Draft_take_sum)=true) (l_Draft_take_sum:FnL K f_Draft_take_sum "take_sum" "Draft.take_sum" G3 o_Draft_take_sum d_Draft_take_sum s0_Draft_take_sum v_Draft_take_sum x_Draft_take_sum p_Draft_take_sum n0_Draft_take_sum c0_Draft_take_sum t_Draft_take_sum) (c_Draft_take_sum:codeIn K c0_Draft_take_sum "Draft.take_sum"=true) (k_Draft_take_sum:keepIn K (.ref f_Draft_take_sum)=true) (a_Draft_whole:findIn K (.ref D_Draft) "whole"=some (some (.ref f_Draft_whole))) (i_Draft_whole:isFn K (.ref f_Draft_whole)=true) (l_Draft_whole:FnL K f_Draft_whole "whole" "Draft.whole" K9 o_Draft_whole d_Draft_whole s0_Draft_whole v_Draft_whole x_Draft_whole p_Draft_whole n0_Draft_whole c0_Draft_whole t_Draft_whole) (c_Draft_whole:codeIn K c0_Draft_whole "Draft.whole"=true) (k_Draft_whole:keepIn K (.ref f_Draft_whole)=true) :
  ∃fd:FuncData,(∀(s:Shared) (v:Value),BindsTo s fd ⟨[v],[]⟩ [("_law_script",v)])/\∀base:Heap,K.In base->base.Ns mainGlobals mg->FnOk l.prog w K mg base CX0 12 fa fd ["_law_script"] (a5l K):=by
 have e:=hfa.symm.trans (PySem.W.mg_of X G a30);cases e;have T:Tx mg:=⟨PySem.W.mg_none_of X G z1,PySem.W.mg_none_of X G z2,PySem.W.mg_none_of X G z3,PySem.W.mg_none_of X G z4,PySem.W.mg_none_of X G z5,PySem.W.mg_none_of X G z6,PySem.W.mg_none_of X G z7,PySem.W.mg_none_of X G z8,PySem.W.mg_none_of X G z9,PySem.W.mg_none_of X G z10,PySem.W.mg_none_of X G z11,PySem.W.mg_none_of X G z12,PySem.W.mg_none_of X G z13,PySem.W.mg_none_of X G z14,PySem.W.mg_none_of X G z15,PySem.W.mg_none_of X G z16⟩;have F1:FunAt K mg "is_name" V6 ["word"]:=D7 X G a1 l1 c_1 k1 λ_ _ _ _ _ _ us hl=>by obtain⟨_,rfl⟩:=a0K hl;rfl
 have F2:FunAt K mg "is_written" M8 ["word"]:=D7 X G a2 l2 c_2 k2 λ_ _ _ _ _ _ us hl=>by obtain⟨_,rfl⟩:=a0K hl;rfl
 have F3:FunAt K mg "read_figures" J9 ["word","most"]:=D7 X G a3 l3 c_3 k3 λ_ _ _ _ _ _ us hl=>by obtain⟨_,_,rfl⟩:=V0 hl;rfl
 have F4:FunAt K mg "read_number" K8 ["word","top"]:=D7 X G a4 l4 c_4 k4 λ_ _ _ _ _ _ us hl=>by obtain⟨_,_,rfl⟩:=V0 hl;rfl
 have F5:FunAt K mg "parted" Z0 ["words"]:=D7 X G a5 l5 c_5 k5 λ_ _ _ _ _ _ us hl=>by obtain⟨_,rfl⟩:=a0K hl;rfl
 have F6:FunAt K mg "read_term" O4 ["names","words"]:=D7 X G a6 l6 c_6 k6 λ_ _ _ _ _ _ us hl=>by obtain⟨_,_,rfl⟩:=V0 hl;rfl
 have F7:FunAt K mg "read_terms" M7 ["names","words"]:=D7 X G a7 l7 c_7 k7 λ_ _ _ _ _ _ us hl=>by obtain⟨_,_,rfl⟩:=V0 hl;rfl
 have F8:FunAt K mg "read_sum" S5 ["names","words"]:=D7 X G a8 l8 c_8 k8 λ_ _ _ _ _ _ us hl=>by obtain⟨_,_,rfl⟩:=V0 hl;rfl
 have F9:FunAt K mg "take_number" K5 ["names","words","kept"]:=D7 X G a9 l9 c_9 k9 λ_ _ _ _ _ _ us hl=>by obtain⟨_,_,_,rfl⟩:=a6o hl;rfl
 have F10:FunAt K mg "take_all" S3 ["draft","lines"]:=D7 X G a10 l10 c_10 k10 λ_ _ _ _ _ _ us hl=>by obtain⟨_,_,rfl⟩:=V0 hl;rfl
 have F11:FunAt K mg "read_system" K7 ["text"]:=D7 X G a11 l11 c_11 k11 λ_ _ _ _ _ _ us hl=>by obtain⟨_,rfl⟩:=a0K hl;rfl
 have F12:FunAt K mg "show_term" O3 ["many","name"]:=D7 X G a12 l12 c_12 k12 λ_ _ _ _ _ _ us hl=>by obtain⟨_,_,rfl⟩:=V0 hl;rfl
 have F13:FunAt K mg "show_terms" M6 ["names","numbers","alone"]:=D7 X G a13 l13 c_13 k13 λ_ _ _ _ _ _ us hl=>by obtain⟨_,_,_,rfl⟩:=a6o hl;rfl
 have F14:FunAt K mg "show_row" S4 ["names","row","side"]:=D7 X G a14 l14 c_14 k14 λ_ _ _ _ _ _ us hl=>by obtain⟨_,_,_,rfl⟩:=a6o hl;rfl
 have F15:FunAt K mg "show_numbers" J8 ["word","names","numbers"]:=D7 X G a15 l15 c_15 k15 λ_ _ _ _ _ _ us hl=>by obtain⟨_,_,_,rfl⟩:=a6o hl;rfl
 have F16:FunAt K mg "show_system" K6 ["system"]:=D7 X G a16 l16 c_16 k16 λ_ _ _ _ _ _ us hl=>by obtain⟨_,rfl⟩:=a0K hl;rfl
 have F17:FunAt K mg "_law_pot" S8 ["_law_script"]:=D7 X G a17 l17 c_17 k17 λ_ _ _ _ _ _ us hl=>by obtain⟨_,rfl⟩:=a0K hl;rfl
 have F18:FunAt K mg "_law_next" O7 ["_law_pot_here","_law_many"]:=D7 X G a18 l18 c_18 k18 λ_ _ _ _ _ _ us hl=>by obtain⟨_,_,rfl⟩:=V0 hl;rfl
 have F19:FunAt K mg "_law_of" V7 ["_law_pot_here","_law_some"]:=D7 X G a19 l19 c_19 k19 λ_ _ _ _ _ _ us hl=>by obtain⟨_,_,rfl⟩:=V0 hl;rfl
 have F20:FunAt K mg "_law_names" M9 ["_law_pot_here"]:=D7 X G a20 l20 c_20 k20 λ_ _ _ _ _ _ us hl=>by obtain⟨_,rfl⟩:=a0K hl;rfl
 have F21:FunAt K mg "_law_great" N0 ["_law_pot_here"]:=D7 X G a21 l21 c_21 k21 λ_ _ _ _ _ _ us hl=>by obtain⟨_,rfl⟩:=a0K hl;rfl
 have F22:FunAt K mg "_law_drawn" N1 ["_law_pot_here"]:=D7 X G a22 l22 c_22 k22 λ_ _ _ _ _ _ us hl=>by obtain⟨_,rfl⟩:=a0K hl;rfl
 have F23:FunAt K mg "_law_same" O6 ["_law_found","_law_due"]:=D7 X G a23 l23 c_23 k23 λ_ _ _ _ _ _ us hl=>by obtain⟨_,_,rfl⟩:=V0 hl;rfl
 have F24:FunAt K mg "_law_term" O5 ["_law_pot_here","_law_number","_law_name"]:=D7 X G a24 l24 c_24 k24 λ_ _ _ _ _ _ us hl=>by obtain⟨_,_,_,rfl⟩:=a6o hl;rfl
 have F25:FunAt K mg "_law_put" S7 ["_law_pot_here","_law_halves","_law_number","_law_name"]:=D7 X G a25 l25 c_25 k25 λ_ _ _ _ _ _ us hl=>by obtain⟨_,_,_,_,rfl⟩:=b4E hl;rfl
 have F26:FunAt K mg "_law_half" O8 ["_law_pot_here","_law_terms"]:=D7 X G a26 l26 c_26 k26 λ_ _ _ _ _ _ us hl=>by obtain⟨_,_,rfl⟩:=V0 hl;rfl
 have F27:FunAt K mg "_law_sum" S6 ["_law_pot_here","_law_names_here","_law_row","_law_side"]:=D7 X G a27 l27 c_27 k27 λ_ _ _ _ _ _ us hl=>by obtain⟨_,_,_,_,rfl⟩:=b4E hl;rfl
 have F28:FunAt K mg "_law_mingled" K0 ["_law_pot_here","_law_rows"]:=D7 X G a28 l28 c_28 k28 λ_ _ _ _ _ _ us hl=>by obtain⟨_,_,rfl⟩:=V0 hl;rfl
 have F29:FunAt K mg "_law_otherwise" G2 ["_law_pot_here","_law_system"]:=D7 X G a29 l29 c_29 k29 λ_ _ _ _ _ _ us hl=>by obtain⟨_,_,rfl⟩:=V0 hl;rfl
 refine⟨fnOf "law" "law" (Q5 a1i) (G7 a1i) (A3 a1i) .none v30 x30 p30 n30 c30 t30,λs v=>.of_eq rfl,λbase XB GB=>?_⟩;have M_Draft:=PySem.W.mg_of X G aD_Draft;have M_FIGURES:=PySem.W.mg_of X G aS_FIGURES;have M_LETTERS:=PySem.W.mg_of X G aS_LETTERS;have M_TOP:=PySem.W.mg_of X G aS_TOP;have CL_Draft:Cls K D_Draft:=⟨pg_Draft,hd_Draft,po_Draft,sa_Draft⟩;have FM_Draft___init__:MethAt K D_Draft "__init__" "Draft.__init__" G4 ["self"]:=a3V a_Draft___init__ i_Draft___init__ l_Draft___init__ c_Draft___init__ k_Draft___init__ λ_ _ _ _ _ _ us hl=>by obtain⟨_,rfl⟩:=a0K hl;rfl
 have FM_Draft_take:MethAt K D_Draft "take" "Draft.take" N2 ["self","words"]:=a3V a_Draft_take i_Draft_take l_Draft_take c_Draft_take k_Draft_take λ_ _ _ _ _ _ us hl=>by obtain⟨_,_,rfl⟩:=V0 hl;rfl
 have FM_Draft_take_names:MethAt K D_Draft "take_names" "Draft.take_names" E1 ["self","words"]:=a3V a_Draft_take_names i_Draft_take_names l_Draft_take_names c_Draft_take_names k_Draft_take_names λ_ _ _ _ _ _ us hl=>by obtain⟨_,_,rfl⟩:=V0 hl;rfl
 have FM_Draft_take_sum:MethAt K D_Draft "take_sum" "Draft.take_sum" G3 ["self","words"]:=a3V a_Draft_take_sum i_Draft_take_sum l_Draft_take_sum c_Draft_take_sum k_Draft_take_sum λ_ _ _ _ _ _ us hl=>by obtain⟨_,_,rfl⟩:=V0 hl;rfl
 have FM_Draft_whole:MethAt K D_Draft "whole" "Draft.whole" K9 ["self"]:=a3V a_Draft_whole i_Draft_whole l_Draft_whole c_Draft_whole k_Draft_whole λ_ _ _ _ _ _ us hl=>by obtain⟨_,rfl⟩:=a0K hl;rfl
 have FL:=a1C (st:=a1i) l30 c_30 k30;have US:DrTx K D_Draft:=⟨CL_Draft,n_Draft_names,n_Draft_rows,n_Draft_sides,n_Draft_caps,n_Draft_prices⟩;have RN:=a1o F4 T (a0I F3 T (a2a (base:=base) (P:=l.prog) (w:=w) F2 T M_FIGURES));have RS:=a3P F8 T M_TOP (a1Z F7 T (a2Z F6 T M_TOP RN) (a6h F5 T));have MI:=(a8k (base:=base) (P:=l.prog) (w:=w) (mg:=mg) FM_Draft___init__ US).make M_Draft mk_Draft kc_Draft;have MT:=a8g FM_Draft_take US T CL_Draft (a1X FM_Draft_take_names US T (a4L F1 T M_LETTERS)) (a3M FM_Draft_take_sum US T RS) (a1l F9 T M_TOP RN);have RP:=a1n F11 T US CL_Draft MI (a3N F10 T CL_Draft MT) (a8f FM_Draft_whole US T);have SS:=a1m F16 T (a3O F14 T (a1Y F13 T (a2Y (base:=base) (P:=l.prog) (w:=w) F12 T))) (a0H F15 T);have NX:=b0d (base:=base) (P:=l.prog) (w:=w) F18 T;have OF:=b4C F19 T NX;have DR:=a8j F22 T NX OF (a8h F20 T NX OF) (a8i F21 T NX OF);have SUM:=b2K F27 T (b2L F25 T NX (b0c F24 T NX)) (b0e F26 T NX);exact b2N FL T (b2M F17 T) DR (a3a F29 T NX SUM (a4K F28 T NX)) (a5s F23 T 4) SS RP
end K46
namespace PySem.W.Fast
theorem tw15015876603718169685:True:=⟨⟩
theorem tw2605464106119212635:True:=⟨⟩
theorem tw17184808875282211760:True:=⟨⟩
theorem tw16284462174736114490:True:=⟨⟩
theorem tw15742216126617490775:True:=⟨⟩
theorem tw16747104471282935626:True:=⟨⟩
theorem tw1563362209889366577:True:=⟨⟩
theorem tw8261707958650059919:True:=⟨⟩
theorem tw14644882869427691540:True:=⟨⟩
theorem tw3838543008696131991:True:=⟨⟩
theorem tw4899925185655603143:True:=⟨⟩
theorem tw3395504307221194632:True:=⟨⟩
theorem tw8365850062449093433:True:=⟨⟩
theorem tw18125426649547734615:True:=⟨⟩
theorem tw15826366241404661493:True:=⟨⟩
theorem tw124292769217002252:True:=⟨⟩
theorem tw17515003914843468223:True:=⟨⟩
theorem tw12971730717080645046:True:=⟨⟩
theorem tw2436827994678458560:True:=⟨⟩
theorem tw1262550459050261102:True:=⟨⟩
theorem tw14509211456005607625:True:=⟨⟩
theorem tw7931457142915525711:True:=⟨⟩
theorem tw7183336014849723189:True:=⟨⟩
theorem tw14280869695488690956:True:=⟨⟩
theorem tw6094236946164202809:True:=⟨⟩
theorem tw17942375215280547860:True:=⟨⟩
theorem tw16134319951138907401:True:=⟨⟩
theorem tw9941028305152792380:True:=⟨⟩
theorem tw13419869651918521969:True:=⟨⟩
theorem tw15154964773277688441:True:=⟨⟩
theorem tw7923838506945779278:True:=⟨⟩
theorem tw15365407235364535749:True:=⟨⟩
theorem tw8412767423962090033:True:=⟨⟩
theorem tw14886752840416525480:True:=⟨⟩
theorem tw9481318709565411273:True:=⟨⟩
theorem tw3033096033391032869:True:=⟨⟩
theorem tw1666713083088801913:True:=⟨⟩
theorem tw11251242780115647479:True:=⟨⟩
theorem tw6917266596236400775:True:=⟨⟩
theorem tw3083524771503200867:True:=⟨⟩
theorem tw10887849403514974770:True:=⟨⟩
theorem tw11040246895321466048:True:=⟨⟩
theorem tw723834133674240305:True:=⟨⟩
theorem tw4342058409903803470:True:=⟨⟩
theorem tw10954454424355591689:True:=⟨⟩
theorem tw12467078462189939668:True:=⟨⟩
theorem tw3837554748515127749:True:=⟨⟩
theorem tw7268690421786352982:True:=⟨⟩
theorem tw3884198105946977920:True:=⟨⟩
theorem tw15294831308501280145:True:=⟨⟩
theorem tw15834589058659384104:True:=⟨⟩
theorem tw8587014639423929033:True:=⟨⟩
theorem tw2952437120249696123:True:=⟨⟩
theorem tw3677948541914788378:True:=⟨⟩
theorem tw8408343589850088681:True:=⟨⟩
theorem tw9363551485966381600:True:=⟨⟩
theorem tw1482729691113767154:True:=⟨⟩
theorem tw11474396662524386120:True:=⟨⟩
theorem tw5716548767938578504:True:=⟨⟩
theorem tw13380230734774509600:True:=⟨⟩
theorem tw278282847339705762:True:=⟨⟩
theorem tw16931650475900690071:True:=⟨⟩
theorem tw7823038430403678330:True:=⟨⟩
theorem tw1128558071390798046:True:=⟨⟩
theorem tw135667734533187598:True:=⟨⟩
theorem tw8774653194982292580:True:=⟨⟩
theorem tw2608285077970290260:True:=⟨⟩
theorem tw8744824999374467999:True:=⟨⟩
theorem tw14623926499367586814:True:=⟨⟩
theorem tw390913682060591093:True:=⟨⟩
theorem tw6233043603390615606:True:=⟨⟩
theorem tw8054004400059713600:True:=⟨⟩
theorem tw4502611716258335185:True:=⟨⟩
theorem tw14815525099473809621:True:=⟨⟩
theorem tw11166646321052286653:True:=⟨⟩
theorem tw6364152079861342488:True:=⟨⟩
theorem tw16191933648596202143:True:=⟨⟩
theorem tw460984387477374249:True:=⟨⟩
theorem tw17628255948929935946:True:=⟨⟩
theorem tw4984737383210329236:True:=⟨⟩
theorem tw13043396354764092108:True:=⟨⟩
theorem tw13484925707860084845:True:=⟨⟩
theorem tw5965704044901978976:True:=⟨⟩
theorem tw18082042948548982921:True:=⟨⟩
theorem tw8651400304579927922:True:=⟨⟩
theorem tw17585521353392080056:True:=⟨⟩
theorem tw6385349277092743735:True:=⟨⟩
theorem tw2887367933811390561:True:=⟨⟩
theorem tw12210769330670809107:True:=⟨⟩
theorem tw13149172722177222222:True:=⟨⟩
theorem tw8904834437219539208:True:=⟨⟩
theorem tw13903624976633019212:True:=⟨⟩
end PySem.W.Fast
open PySem PySem.W PyProof.Rows
set_option maxRecDepth 100000 in
set_option maxHeartbeats 0 in
theorem PySem.Challenge.cw_leastlays_k46_one_system_by_many_texts_holds : PySem.Challenge.rw_leastlays_k46_one_system_by_many_texts.Holds := by
 w_on;o_law;k_head;(case hw=>w_witness2)
 k_fill
 refine L2.law_walk (l:=PySem.Challenge.rw_leastlays_k46_one_system_by_many_texts) 12 rfl rfl ⟨rfl,by decide,by decide⟩ (λw h Y=>PySem.W.kIn_of Y) ?F
 case F =>
  intro w mg fa h KX G hmg
  refine' K46.all_mk KX G hmg ?a1 ?l1 ?c_1 ?k1 ?a2 ?l2 ?c_2 ?k2 ?a3 ?l3 ?c_3 ?k3 ?a4 ?l4 ?c_4 ?k4 ?a5 ?l5 ?c_5 ?k5 ?a6 ?l6 ?c_6 ?k6 ?a7 ?l7 ?c_7 ?k7 ?a8 ?l8 ?c_8 ?k8 ?a9 ?l9 ?c_9 ?k9 ?a10 ?l10 ?c_10 ?k10 ?a11 ?l11 ?c_11 ?k11 ?a12 ?l12 ?c_12 ?k12 ?a13 ?l13 ?c_13 ?k13 ?a14 ?l14 ?c_14 ?k14 ?a15 ?l15 ?c_15 ?k15 ?a16 ?l16 ?c_16 ?k16 ?a17 ?l17 ?c_17 ?k17 ?a18 ?l18 ?c_18 ?k18 ?a19 ?l19 ?c_19 ?k19 ?a20 ?l20 ?c_20 ?k20 ?a21 ?l21 ?c_21 ?k21 ?a22 ?l22 ?c_22 ?k22 ?a23 ?l23 ?c_23 ?k23 ?a24 ?l24 ?c_24 ?k24 ?a25 ?l25 ?c_25 ?k25 ?a26 ?l26 ?c_26 ?k26 ?a27 ?l27 ?c_27 ?k27 ?a28 ?l28 ?c_28 ?k28 ?a29 ?l29 ?c_29 ?k29 ?a30 ?l30 ?c_30 ?k30 ?z1 ?z2 ?z3 ?z4 ?z5 ?z6 ?z7 ?z8 ?z9 ?z10 ?z11 ?z12 ?z13 ?z14 ?z15 ?z16 ?aD_Draft ?aS_FIGURES ?aS_LETTERS ?aS_TOP ?pg_Draft ?hd_Draft ?po_Draft ?sa_Draft ?mk_Draft ?kc_Draft ?n_Draft_names ?n_Draft_rows ?n_Draft_sides ?n_Draft_caps ?n_Draft_prices ?a_Draft___init__ ?i_Draft___init__ ?l_Draft___init__ ?c_Draft___init__ ?k_Draft___init__ ?a_Draft_take ?i_Draft_take ?l_Draft_take ?c_Draft_take ?k_Draft_take ?a_Draft_take_names ?i_Draft_take_names ?l_Draft_take_names ?c_Draft_take_names ?k_Draft_take_names ?a_Draft_take_sum ?i_Draft_take_sum ?l_Draft_take_sum ?c_Draft_take_sum ?k_Draft_take_sum ?a_Draft_whole ?i_Draft_whole ?l_Draft_whole ?c_Draft_whole ?k_Draft_whole
  (case a1|l1|c_1|k1|a2|l2|c_2|k2|a3|l3|c_3|k3|a4|l4|c_4|k4|a5|l5|c_5|k5|a6|l6|c_6|k6|a7|l7|c_7|k7|a8|l8|c_8|k8|a9|l9|c_9|k9|a10|l10|c_10|k10|a11|l11|c_11|k11|a12|l12|c_12|k12|a13|l13|c_13|k13|a14|l14|c_14|k14|a15|l15|c_15|k15|a16|l16|c_16|k16|a17|l17|c_17|k17|a18|l18|c_18|k18|a19|l19|c_19|k19|a20|l20|c_20|k20|a21|l21|c_21|k21|a22|l22|c_22|k22|a23|l23|c_23|k23|a24|l24|c_24|k24|a25|l25|c_25|k25|a26|l26|c_26|k26|a27|l27|c_27|k27|a28|l28|c_28|k28|a29|l29|c_29|k29|a30|l30|c_30|k30|z1|z2|z3|z4|z5|z6|z7|z8|z9|z10|z11|z12|z13|z14|z15|z16|aD_Draft|aS_FIGURES|aS_LETTERS|aS_TOP=>(try unfold L2.FnL);k_is)
  (case pg_Draft|hd_Draft|po_Draft|sa_Draft|mk_Draft|kc_Draft|n_Draft_names|n_Draft_rows|n_Draft_sides|n_Draft_caps|n_Draft_prices|a_Draft___init__|i_Draft___init__|l_Draft___init__|c_Draft___init__|k_Draft___init__|a_Draft_take|i_Draft_take|l_Draft_take|c_Draft_take|k_Draft_take|a_Draft_take_names|i_Draft_take_names|l_Draft_take_names|c_Draft_take_names|k_Draft_take_names|a_Draft_take_sum|i_Draft_take_sum|l_Draft_take_sum|c_Draft_take_sum|k_Draft_take_sum|a_Draft_whole|i_Draft_whole|l_Draft_whole|c_Draft_whole|k_Draft_whole=>(try unfold L2.FnL);k_is)
#print axioms PySem.Challenge.cw_leastlays_k46_one_system_by_many_texts_holds
