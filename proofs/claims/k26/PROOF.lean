import PyProof.Rows.All
import Wide.All
import OpenK.AllK
import Wide.FinOn
import Lean
import PyProof.EqAt
import PyProof.EqKinds
import PyProof.TupleCall
import PyProof.ZipIter
import PyProof.ExcArgsOwn
import PyProof.ExcAttrAll.ValueError
import KE.KSortTup
import PyProof.AutoSeq1
import PySem.Challenge.RW_leastlays_k26_whole_answers_within_caps
set_option compiler.extract_closed false
set_option bootstrap.genMatcherCode false
set_option genSizeOf false
set_option Elab.async false
set_option linter.all false
set_option maxRecDepth 100000
set_option maxHeartbeats 4000000
abbrev LLI:=List (List Int)
namespace L2
open PySem PySem.Spec PyProof.Rows
abbrev Key:=Sum Int Str
noncomputable def keyIs:Key→Value→Bool
 | .inl k,v=>Value.isInt k v
 | .inr x,v=>Value.isStrOf x v
noncomputable def keyH (w:World):Key→Int
 | .inl k=>hashInt k
 | .inr x=>hashStr w x
theorem keyIs_shape:∀ {k:Key} {v:Value},keyIs k v=true→(∃ i t,k=Sum.inl i∧v=Value.int i t)∨(∃ x t,k=Sum.inr x∧v=Value.str x t)
 | .inl i,v,h=>by
  obtain ⟨t,e⟩:=Value.isInt_shape (k:=i) (v:=v) h
  exact .inl ⟨i,t,rfl,e⟩
 | .inr x,v,h=>by
  obtain ⟨t,e⟩:=Value.isStrOf_shape (x:=x) (v:=v) h
  exact .inr ⟨x,t,rfl,e⟩
theorem keyIs_int (i:Int) (t:Tok):keyIs (.inl i) (.int i t)=true:=by simp [keyIs,Value.isInt]
theorem keyIs_str (x:Str) (t:Tok):keyIs (.inr x) (.str x t)=true:=by simp [keyIs,Value.isStrOf]
theorem key_ll (a b:Int):decide ((Sum.inl a:Key)=Sum.inl b)=(a == b):=by
 by_cases e:a=b
 ·subst e; simp
 ·have h:¬ (Sum.inl a:Key)=Sum.inl b:=fun q=>e (Sum.inl.inj q)
  rw [decide_eq_false h]
  exact (beq_eq_false_iff_ne.mpr e).symm
theorem key_rr (a b:Str):decide ((Sum.inr a:Key)=Sum.inr b)=decide (a=b):=by
 by_cases e:a=b
 ·subst e; simp
 ·have h:¬ (Sum.inr a:Key)=Sum.inr b:=fun q=>e (Sum.inr.inj q)
  rw [decide_eq_false h,decide_eq_false e]
theorem key_lr (a:Int) (b:Str):decide ((Sum.inl a:Key)=Sum.inr b)=false:=decide_eq_false (fun q=>nomatch q)
theorem key_rl (a:Str) (b:Int):decide ((Sum.inr a:Key)=Sum.inl b)=false:=decide_eq_false (fun q=>nomatch q)
noncomputable def mixKind (prog:Program) (w:World):PySem.KeyKind prog w Key where
 is:=keyIs
 hash:=keyH w
 inj:=fun v a b ha hb=>by
  rcases keyIs_shape ha with ⟨i,t,rfl,rfl⟩ | ⟨x,t,rfl,rfl⟩
  ·rcases keyIs_shape hb with ⟨j,u,rfl,e⟩ | ⟨y,u,rfl,e⟩
   ·injection e with e1 _; rw [e1]
   ·exact nomatch e
  ·rcases keyIs_shape hb with ⟨j,u,rfl,e⟩ | ⟨y,u,rfl,e⟩
   ·exact nomatch e
   ·injection e with e1 _; rw [e1]
 byValue:=fun k v h=>by
  rcases keyIs_shape h with ⟨i,t,rfl,rfl⟩ | ⟨x,t,rfl,rfl⟩ <;> rfl
 pyHash:=fun hv h=>by
  rcases keyIs_shape hv with ⟨i,t,rfl,rfl⟩ | ⟨x,t,rfl,rfl⟩
  ·exact wpAny_pyHash_int h
  ·exact wpAny_pyHash_str h
 eqBool:=fun hu hv h=>by
  rcases keyIs_shape hu with ⟨i,t,rfl,rfl⟩ | ⟨x,t,rfl,rfl⟩
  ·rcases keyIs_shape hv with ⟨j,u,rfl,rfl⟩ | ⟨y,u,rfl,rfl⟩
   ·rw [key_ll] at h; exact wpAny_eqBool_int h
   ·rw [key_lr] at h; exact SeqAt.EqAt.int_str i t y u _ _ _ _ h
  ·rcases keyIs_shape hv with ⟨j,u,rfl,rfl⟩ | ⟨y,u,rfl,rfl⟩
   ·rw [key_rl] at h; exact SeqAt.EqAt.str_int x t j u _ _ _ _ h
   ·rw [key_rr] at h; exact wpAny_eqBool_str h
 «strs» := fun k x t v h=>by
  rcases keyIs_shape h with ⟨i,u,rfl,e⟩ | ⟨y,u,rfl,e⟩
  ·exact nomatch e
  ·injection e with e1 _
   subst e1
   cases v <;> rfl
theorem mixKind_int (prog:Program) (w:World) (i:Int) (t:Tok):(mixKind prog w).is (.inl i) (.int i t)=true:=keyIs_int i t
theorem mixKind_str (prog:Program) (w:World) (x:Str) (t:Tok):(mixKind prog w).is (.inr x) (.str x t)=true:=keyIs_str x t
inductive V where
 | non | bl (b:Bool) | int (i:Int) | str (x:Str) | byt (b:Array UInt8) | flt (b:UInt64) | ref (a:Addr) | ty (n:String)
 deriving DecidableEq
def RelV:V→Value→Prop
 | .non,u=>u=Value.none
 | .bl b,u=>u=Value.bool b
 | .int i,u=>∃ t,u=Value.int i t
 | .str x,u=>∃ t,u=Value.str x t
 | .byt b,u=>∃ t,u=Value.bytes b t
 | .flt b,u=>∃ t,u=Value.float b t
 | .ref a,u=>u=Value.ref a
 | .ty n,u=>u=Value.type n
abbrev Vals:List V→List Value→Prop:=Paired RelV
theorem Vals.length {xs:List V} {us:List Value} (r:Vals xs us):xs.length=us.length:=Paired.length r
theorem Vals.get:∀ {xs:List V} {us:List Value} {i:Nat} {x:V},Vals xs us→xs[i]?=some x→∃ u,us[i]?=some u∧RelV x u
 | _,_,_,_,.nil,e=>by simp at e
 | _,_,0,_,.cons r _,e=>by simp at e; subst e; exact ⟨_,rfl,r⟩
 | _,_,i+1,x,.cons _ t,e=>by
  obtain ⟨u,h1,h2⟩:=Vals.get (i:=i) (x:=x) t (by simpa using e)
  exact ⟨u,by simpa using h1,h2⟩
theorem Vals.set {x:V} {u:Value} (r:RelV x u):∀ {xs:List V} {us:List Value} (i:Nat),Vals xs us→Vals (xs.set i x) (us.set i u)
 | _,_,_,.nil=>.nil
 | _,_,0,.cons _ t=>.cons r t
 | _,_,i+1,.cons q t=>.cons q (Vals.set r i t)
theorem Vals.append:∀ {xs ys:List V} {us ws:List Value},Vals xs us→Vals ys ws→Vals (xs++ys) (us++ws)
 | _,_,_,_,.nil,s=>s
 | _,_,_,_,.cons r t,s=>.cons r (Vals.append t s)
theorem Vals.take:∀ {xs:List V} {us:List Value} (n:Nat),Vals xs us→Vals (xs.take n) (us.take n)
 | _,_,0,_=>.nil
 | _,_,_+1,.nil=>.nil
 | _,_,n+1,.cons r t=>.cons r (Vals.take n t)
theorem Vals.drop:∀ {xs:List V} {us:List Value} (n:Nat),Vals xs us→Vals (xs.drop n) (us.drop n)
 | _,_,0,r=>r
 | _,_,_+1,.nil=>.nil
 | _,_,n+1,.cons _ t=>Vals.drop n t
def RelO:Option V→Option Value→Prop
 | some v,some u=>RelV v u
 | none,none=>True
 | _,_=>False
def KV {κ:Type}:List (κ×V)→List (κ×Value)→Prop:=Paired fun (p:κ×V) (q:κ×Value)=>p.1=q.1∧RelV p.2 q.2
noncomputable def kV:Key→V
 | .inl i=>.int i
 | .inr x=>.str x
inductive HO where
 /-- a list -/
 | lst (xs:List V)
 /-- a tuple (never changes) -/
 | tup (xs:List V)
 /-- a dict whose keys are ints and texts; one whose keys are tuples of ints and texts (the empty one is both) -/
 | dK (kvs:List (Key×V)) | dT (kvs:List (List Key×V))
 /-- a set of ints: its members, its size -/
 | set (S:Int→Bool) (n:Nat)
 /-- an instance of the class at C, its dict at dx, its attributes -/
 | ins (C dx:Addr) (fs:List (Str×V))
 /-- the dict of the instance at x -/
 | own (x:Addr)
 /-- the dict of an exception -/
 | xd (fs:List (Str×V))
 /-- a bound method, f of x -/
 | met (f x:Addr)
 /-- a range object lo, lo + 1, .. below hi -/
 | rng (lo hi:Int)
 /-- a thing that is known to the object (the script; a dict while a loop walks it): read, never written while it is so -/
 | frz (o:Obj) (u:HO)
 /-- a code object's table -/
 | tbl (ps:Array Value)
 /-- any other thing, by what is true of its one object (a def of one's own: SetO a S n := HO.ext fun h => ..) -/
 | ext (φ:Heap→Prop)
abbrev Hp:=Addr→Option HO
noncomputable def upd (H:Hp) (a:Addr) (o:HO):Hp:=fun b=>if b=a then some o else H b
theorem upd_same {H:Hp} {a:Addr} {o:HO}:upd H a o a=some o:=by unfold upd; rw [if_pos rfl]
theorem upd_ne {H:Hp} {a b:Addr} {o:HO} (h:b≠a):upd H a o b=H b:=by unfold upd; rw [if_neg h]
theorem upd_upd {H:Hp} {a:Addr} {o u:HO}:upd (upd H a o) a u=upd H a u:=by
 funext b; unfold upd; split <;> rfl
theorem ne_of {H:Hp} {a b:Addr} {o u:HO} (h:H a=some o) (h':H b=some u) (d:o≠u):a≠b:=by
 intro e; subst e; rw [h] at h'; exact d (Option.some.inj h')
theorem ne_of_none {H:Hp} {a b:Addr} {o:HO} (h:H a=some o) (h':H b=none):a≠b:=by
 intro e; subst e; rw [h] at h'; cases h'
section
variable (P:Program) (w:World)
def ObjOk (H:Hp) (h:Heap) (a:Addr):HO→Prop
 | .lst xs=>xs.length≤sizeLine∧∃ (its:List Value) (n:Nat),Vals xs its∧h.get? a=some { cls:=.type "list",data:=.seq its.toArray n }
 | .tup xs=>xs.length≤sizeLine∧∃ its:List Value,Vals xs its∧IsTup h a its.toArray
 | .dK kvs=>kvs.length≤sizeLine∧(a == sysModules)=false∧∃ vs,KV kvs vs∧h.DictOf (mixKind P w) a vs
 | .dT kvs=>kvs.length≤sizeLine∧(a == sysModules)=false∧∃ xs:List (List Key×Addr×Value),
   Paired (fun (p:List Key×V) (q:List Key×Addr×Value)=>p.1=q.1∧H q.2.1=some (.tup (p.1.map kV))∧RelV p.2 q.2.2) kvs xs ∧
   ∃ o es ep,h.get? a=some o∧o.ExactDict∧o.data=.dict es ep∧es.toList=xs.map (entryOfKey (tupleKind (mixKind P w)))∧(xs.map (·.1)).Nodup
 | .set S n=>h.SetOf (intKind P w) a S n
 | .ins C dx fs=>H dx=some (.own a)∧fs.length≤1000∧dx≠a∧h.get? a=some (PySem.W.instObj C dx) ∧
   ∃ mA,h.Ns1 dx mA∧(∀ f,RelO (fs.lookup f) (mA f))∧PySem.Within mA (fs.map (·.1))
 | .own _=>∃ o,h.get? a=some o
 | .xd fs=>∃ mA,h.Ns1 a mA∧∀ f,RelO (fs.lookup f) (mA f)
 | .rng lo hi=>∃ t u v,h.get? a=some { cls:=.type "range",data:=.fields #[.int lo t,.int hi u,.int 1 v] }
 | .frz o u=>h.get? a=some o∧ObjOk H h a u
 | .tbl ps=>h.get? a=some { cls:=.none,data:=.fields ps }
 | .met f x=>h.get? a=some (PySem.W.methodObj (.ref f) (.ref x))
 | .ext φ=>φ h∧(∃ o,h.get? a=some o)∧∀ h1 h2:Heap,φ h1→(∀ o,h1.get? a=some o→h2.get? a=some o)→φ h2
def HOk (H:Hp) (h:Heap):Prop:=∀ a o,H a=some o→ObjOk P w H h a o
end
section
variable {P:Program} {w:World} {H H':Hp} {h h':Heap} {a:Addr} {o:HO}
theorem ObjOk.lt (x:ObjOk P w H h a o):a < h.objs.size:=by
 cases o with
 | lst xs=>obtain ⟨_,_,_,_,e⟩:=x; exact Heap.lt_size e
 | tup xs=>obtain ⟨_,_,_,p⟩:=x; exact p.lt
 | dK kvs=>obtain ⟨_,_,_,_,o,_,_,e,_⟩:=x; exact Heap.lt_size e
 | dT kvs=>obtain ⟨_,_,_,_,o,_,_,e,_⟩:=x; exact Heap.lt_size e
 | set S n=>obtain ⟨o,_,_,_,e,_⟩:=x; exact Heap.lt_size e
 | ins C dx fs=>obtain ⟨_,_,_,e,_⟩:=x; exact Heap.lt_size e
 | own y=>obtain ⟨_,e⟩:=x; exact Heap.lt_size e
 | xd fs=>obtain ⟨_,⟨_,_,_,e,_⟩,_⟩:=x; exact Heap.lt_size e
 | rng lo hi=>obtain ⟨_,_,_,e⟩:=x; exact Heap.lt_size e
 | frz ob u=>obtain ⟨e,_⟩:=x; exact Heap.lt_size e
 | tbl ps=>exact Heap.lt_size (show h.get? a=some _ from x)
 | met f y=>exact Heap.lt_size (show h.get? a=some _ from x)
 | ext φ=>obtain ⟨_,⟨_,e⟩,_⟩:=x; exact Heap.lt_size e
theorem Paired.mapP {α β:Type} {F G:α→β→Prop}:∀ {l₁:List α} {l₂:List β},Paired F l₁ l₂→(∀ a b,F a b→G a b)→Paired G l₁ l₂
 | _,_,.nil,_=>.nil
 | _,_,.cons r t,f=>.cons (f _ _ r) (Paired.mapP t f)
theorem ObjOk.stay (x:ObjOk P w H h a o) (k:∀ b u,(b=a∨H b=some (.own a))→h.get? b=some u→h'.get? b=some u)
  (ho:∀ b,H b=some (.own a)→H' b=some (.own a)) (ht:∀ b xs,H b=some (.tup xs)→H' b=some (.tup xs)):ObjOk P w H' h' a o:=by
 induction o with
 | lst xs=>obtain ⟨z,its,n,r,e⟩:=x; exact ⟨z,its,n,r,k _ _ (.inl rfl) e⟩
 | tup xs=>obtain ⟨z,its,r,ob,e,c⟩:=x; exact ⟨z,its,r,ob,k _ _ (.inl rfl) e,c⟩
 | dK kvs=>obtain ⟨z,y,vs,r,ob,es,ep,e,c⟩:=x; exact ⟨z,y,vs,r,ob,es,ep,k _ _ (.inl rfl) e,c⟩
 | dT kvs =>
  obtain ⟨z,y,xs,r,ob,es,ep,e,c⟩:=x
  exact ⟨z,y,xs,Paired.mapP r fun p q z=>⟨z.1,ht _ _ z.2.1,z.2.2⟩,ob,es,ep,k _ _ (.inl rfl) e,c⟩
 | set S n=>obtain ⟨ob,es,ep,t,e,c⟩:=x; exact ⟨ob,es,ep,t,k _ _ (.inl rfl) e,c⟩
 | ins C dx fs =>
  obtain ⟨d,z,ne,e,mA,⟨od,es,ep,e2,c⟩,r⟩:=x
  exact ⟨ho _ d,z,ne,k _ _ (.inl rfl) e,mA,⟨od,es,ep,k _ _ (.inr d) e2,c⟩,r⟩
 | own y=>obtain ⟨ob,e⟩:=x; exact ⟨ob,k _ _ (.inl rfl) e⟩
 | xd fs=>obtain ⟨mA,⟨od,es,ep,e,c⟩,r⟩:=x; exact ⟨mA,⟨od,es,ep,k _ _ (.inl rfl) e,c⟩,r⟩
 | rng lo hi=>obtain ⟨t,u,v,e⟩:=x; exact ⟨t,u,v,k _ _ (.inl rfl) e⟩
 | frz ob u ih=>obtain ⟨e,q⟩:=x; exact ⟨k _ _ (.inl rfl) e,ih q⟩
 | tbl ps =>
  have e:h.get? a=some { cls:=.none,data:=.fields ps }:=x
  show h'.get? a=some { cls:=.none,data:=.fields ps }
  exact k a _ (.inl rfl) e
 | met f y =>
  have e:h.get? a=some (PySem.W.methodObj (.ref f) (.ref y)):=x
  show h'.get? a=some (PySem.W.methodObj (.ref f) (.ref y))
  exact k a _ (.inl rfl) e
 | ext φ=>obtain ⟨p,⟨o,e⟩,st⟩:=x; exact ⟨st _ _ p fun o q=>k _ _ (.inl rfl) q,⟨o,k _ _ (.inl rfl) e⟩,st⟩
theorem HOk.lt (x:HOk P w H h) (e:H a=some o):a < h.objs.size:=(x a o e).lt
theorem HOk.fresh (x:HOk P w H h) (e:h.objs.size≤a):H a=none:=by
 cases q:H a with
 | none=>rfl
 | some u=>exact absurd (Nat.lt_of_lt_of_le (x.lt q) e) (Nat.lt_irrefl _)
theorem HOk.kept (x:HOk P w H h) (k:∀ b u,h.get? b=some u→h'.get? b=some u):HOk P w H h':=fun a o e =>
 (x a o e).stay (fun b u _ q=>k b u q) (fun _ q=>q) fun _ _ q=>q
theorem HOk.laid (x:HOk P w H h) (k:∀ b u,h.get? b=some u→h'.get? b=some u) (hp:h.objs.size≤a) (new:ObjOk P w (upd H a o) h' a o):HOk P w (upd H a o) h':=fun b u e=>by
 have hn:=x.fresh hp
 by_cases hb:b=a
 ·subst hb; rw [upd_same] at e; cases e; exact new
 ·rw [upd_ne hb] at e
  exact (x b u e).stay (fun c v _ q=>k c v q) (fun c q=>by rw [upd_ne (ne_of_none q hn)]; exact q) fun c xs q=>by rw [upd_ne (ne_of_none q hn)]; exact q
end
def Rd (H:Hp) (a:Addr) (u:HO):Prop:=H a=some u∨∃ o,H a=some (.frz o u)
theorem Rd.ok {P:Program} {w:World} {H:Hp} {h:Heap} {a:Addr} {u:HO} (r:Rd H a u) (x:HOk P w H h):ObjOk P w H h a u:=by
 rcases r with r | ⟨o,r⟩
 ·exact x a u r
 ·obtain ⟨_,q⟩:=x a _ r
  exact q
def Mut:Option HO→Prop
 | some (.lst _)=>True
 | some (.dK _)=>True
 | some (.dT _)=>True
 | some (.set _ _)=>True
 | some (.ins _ _ _)=>True
 | some (.ext _)=>True
 | _=>False
section
variable {P:Program} {w:World} {H:Hp} {h h':Heap} {x e:Addr} {o':HO}
theorem HOk.write (ok:HOk P w H h) (mu:Mut (H x)) (he:e=x∨H e=some (.own x)) (k:∀ b u,b≠e→h.get? b=some u→h'.get? b=some u) (heo:∃ u,h'.get? e=some u)
  (new:ObjOk P w (upd H x o') h' x o'):HOk P w (upd H x o') h':=fun b u q=>by
 have nown:∀ c y,H c=some (.own y)→c≠x:=fun c y r z=>by subst z; rw [r] at mu; exact mu
 have ntup:∀ c xs,H c=some (.tup xs)→c≠x:=fun c xs r z=>by subst z; rw [r] at mu; exact mu
 by_cases hb:b=x
 ·subst hb; rw [upd_same] at q; cases q; exact new
 ·rw [upd_ne hb] at q
  by_cases hbe:b=e
  ·have q':H b=some (.own x):=by
    rcases he with z | z
    ·exact absurd (hbe.trans z) hb
    ·rw [hbe]; exact z
   rw [q] at q'; cases q'
   obtain ⟨v,hv⟩:=heo
   exact ⟨v,by rw [hbe]; exact hv⟩
  ·refine (ok b u q).stay (fun c v hc r=>k c v ?_ r) (fun c r=>by rw [upd_ne (nown c b r)]; exact r) fun c xs r=>by rw [upd_ne (ntup c xs r)]; exact r
   rcases hc with rfl | hc
   ·exact hbe
   ·rintro rfl
    rcases he with z | z
    ·exact nown c b hc z
    ·rw [hc] at z; cases z; exact hb rfl
end
structure Un (fs ex:List Addr) (H H':Hp) (h h':Heap):Prop where
 keep:∀ b o,h.get? b=some o→H b=none→b ∉ fs→b ∉ ex→h'.get? b=some o
 slot:∀ b o,h.get? b=some o→H b=none→b∈fs→b ∉ ex→∃ sl,h'.get? b=some { o with slots:=sl }
 free:∀ b o,h.get? b=some o→H b=none→b ∉ ex→H' b=none
 there:∀ b o,h.get? b=some o→b ∉ ex→∃ o',h'.get? b=some o'
 tups:∀ b xs,H b=some (.tup xs)→H' b=some (.tup xs)
 frzs:∀ b o u,H b=some (.frz o u)→H' b=some (.frz o u)
 tbls:∀ b ps,H b=some (.tbl ps)→∃ more,H' b=some (.tbl (ps++more))
section
variable {fs fs' ex ex':List Addr} {H H1 H2:Hp} {h h1 h2 h':Heap} {a x e:Addr} {o:HO}
theorem Un.any (u:Un fs ex H H1 h h1) {b:Addr} {ob:Obj} (q:h.get? b=some ob) (n:H b=none) (hx:b ∉ ex):∃ sl,h1.get? b=some { ob with slots:=sl }:=by
 by_cases hb:b∈fs
 ·exact u.slot b ob q n hb hx
 ·exact ⟨ob.slots,u.keep b ob q n hb hx⟩
theorem Un.kept (k:∀ b u,h.get? b=some u→h'.get? b=some u):Un fs ex H H h h' :=
 ⟨fun b ob q _ _ _=>k b ob q,fun b ob q _ _ _=>⟨ob.slots,k b ob q⟩,fun _ _ _ n _=>n,fun b ob q _=>⟨ob,k b ob q⟩,fun _ _ q=>q,fun _ _ _ q=>q,fun _ ps q=>⟨#[],by rw [q]; simp⟩⟩
theorem Un.refl:Un fs ex H H h h:=Un.kept fun _ _ q=>q
theorem Un.laid (k:∀ b u,h.get? b=some u→h'.get? b=some u) (hp:h.objs.size≤a) (hn:H a=none):Un fs ex H (upd H a o) h h' where
 keep:=fun b u q _ _ _=>k b u q
 slot:=fun b u q _ _ _=>⟨u.slots,k b u q⟩
 free:=fun b u q n _=>by rw [upd_ne (Nat.ne_of_lt (Nat.lt_of_lt_of_le (Heap.lt_size q) hp))]; exact n
 there:=fun b u q _=>⟨u,k b u q⟩
 tups:=fun b xs q=>by rw [upd_ne (ne_of_none q hn)]; exact q
 frzs:=fun b u xs q=>by rw [upd_ne (ne_of_none q hn)]; exact q
 tbls:=fun b ps q=>⟨#[],by rw [upd_ne (ne_of_none q hn),q]; simp⟩
theorem Un.write (mu:Mut (H x)) (he:e=x∨H e=some (.own x)) (k:∀ b u,b≠e→h.get? b=some u→h'.get? b=some u) (heo:∃ u,h'.get? e=some u):Un fs ex H (upd H x o) h h':=by
 have hx:∀ b,H b=none→b≠x:=fun b n z=>by subst z; rw [n] at mu; exact mu
 have hb:∀ b,H b=none→b≠e:=fun b n z=>by
  subst z
  rcases he with r | r
  ·exact hx b n r
  ·rw [n] at r; cases r
 have hm:∀ b u,H b=some u→¬ Mut (some u)→b≠x:=fun b u q nm z=>by subst z; rw [q] at mu; exact nm mu
 refine ⟨fun b u q n _ _=>k b u (hb b n) q,fun b u q n _ _=>⟨u.slots,k b u (hb b n) q⟩,fun b u q n _=>by rw [upd_ne (hx b n)]; exact n,fun b u q _=>?_,
  fun b xs q=>by rw [upd_ne (hm b _ q fun z=>z)]; exact q,fun b u xs q=>by rw [upd_ne (hm b _ q fun z=>z)]; exact q,fun b ps q=>⟨#[],by rw [upd_ne (hm b _ q fun z=>z),q]; simp⟩⟩
 by_cases hbe:b=e
 ·subst hbe; exact heo
 ·exact ⟨u,k b u hbe q⟩
end
noncomputable def trk (h:Heap) (H:Hp):List Addr:=(List.range h.objs.size).filter fun a=>(H a).isSome
noncomputable def hidT (h:Heap) (H:Hp):Heap:=PySem.W.hideAll h (trk h H)
theorem hidT_size (h:Heap) (H:Hp):(hidT h H).objs.size=h.objs.size:=PySem.W.hideAll_size _ _
theorem hidT_get {h:Heap} {H:Hp} {b:Addr} {o:Obj} (e:h.get? b=some o) (n:H b=none):(hidT h H).get? b=some o :=
 PySem.W.hideAll_get _ e fun hm=>by
  have q:(H b).isSome=true:=(List.mem_filter.mp hm).2
  rw [n] at q; simp at q
theorem of_hidT {h:Heap} {H:Hp} {b:Addr} {o:Obj} (e:(hidT h H).get? b=some o):h.get? b=some o∧H b=none:=by
 have e':h.get? b=some o:=PySem.W.of_hideAll (trk h H) e
 refine ⟨e',?_⟩
 cases q:H b with
 | none=>rfl
 | some x =>
  have hm:b∈trk h H:=List.mem_filter.mpr ⟨List.mem_range.mpr (Heap.lt_size e'),by simp [q]⟩
  have z:(hidT h H).get? b=none:=PySem.W.hideAll_none (trk h H) hm
  rw [z] at e; cases e
noncomputable def allNews (g h:Heap) (L:Addr):List (Addr×Obj):=(List.range h.objs.size).filterMap fun a=>if a=L∨(g.get? a).isSome=true then none else (h.get? a).map fun o=>(a,o)
noncomputable def rest (g h:Heap) (L d:Addr):List (Addr×Obj):=(allNews g h L).filter fun p=>decide (p.1≠d)
structure Mod (K:PySem.W.Frag) (mg:Str→Option Value) (base:Heap):Prop where
 kin:K.In base
 glob:base.Ns mainGlobals mg
 blt:∃ mb,base.Ns builtinsNs mb∧∀ x:Str,x ≠ "__name__" → mb x=bootBuiltins x
 nolimit:base.NoLimit
structure Cx where
 prog:Program
 w:World
 K:PySem.W.Frag
 mg:Str→Option Value
 base:Heap
 A:Around
 N:List Str
 s₀:Shared
 H₀:Hp
 env:Env
 outer:List Env
 stack:List Env
 ex:List Addr
 fn:Str→Bool
 calm:Bool
 pn:List (Addr×Obj)
 xe:Value→Shared→Prop
noncomputable def frs (l:List Env):List Addr:=l.filterMap (·.frame)
noncomputable abbrev Cx.fs (X:Cx):List Addr:=frs X.outer
def Vis (sc:Scope) (x:Str):Prop:=sc.names.lookup x=some .local∨sc.names.lookup x=some .cell∨sc.names.lookup x=some .free
def Loc (sc:Scope) (x:Str):Prop:=sc.names.lookup x=some .local∨sc.names.lookup x=some .cell
def Look (env:Env) (h:Heap) (m:Str→Option Value) (x:Str) (u:Value):Prop :=
 (env.kindOf x=some .local∧m x=some u)∨((env.kindOf x=some .cell∨env.kindOf x=some .free)∧∃ c,env.cells.lookup x=some c∧h.IsCell c (some u))
structure Cx.Ok (X:Cx):Prop where
 mod:Mod X.K X.mg X.base
 kind:X.env.scope.kind=.function
 glob:X.env.globals=mainGlobals
 blt:X.env.builtins=builtinsNs
 above:X.s₀.heap.objs.size≤X.env.locals
 inj:∀ x y c,X.env.cells.lookup x=some c→X.env.cells.lookup y=some c→x=y
 has:∀ x,(X.env.kindOf x=some .cell∨X.env.kindOf x=some .free)→∃ c,X.env.cells.lookup x=some c
 cab:∀ x c,X.fn x=true→X.env.cells.lookup x=some c→X.s₀.heap.objs.size≤c
 hd:X.calm=true→X.A.handled=none
 frames:X.A.frames=some X.stack
 stk:X.stack=X.outer∨(X.stack=X.env::X.outer∧X.env.frame=some X.env.locals)
 exf:∀ b∈X.ex,b≠X.env.locals∧∀ x c,X.env.cells.lookup x=some c→c≠b
 bs:∀ b o,X.base.get? b=some o→X.s₀.heap.get? b=some o∧X.H₀ b=none
 bsz:X.base.objs.size≤X.s₀.heap.objs.size
 noex:∀ b o,X.base.get? b=some o→b ∉ X.ex
 exfs:∀ b∈X.ex,b ∉ X.fs
 funs:X.s₀.heap.FunFrames X.base X.outer
 frf:∀ b∈X.fs,X.H₀ b=none
structure Inv (X:Cx) (pins:List (Addr×Obj)) (σ:List (Option V)) (H:Hp) (s:Shared):Prop where
 ok:X.Ok
 os:s.os=X.s₀.os
 bare:AllBare s.gens
 base:Un X.fs X.ex X.H₀ H X.s₀.heap s.heap
 loc:∃ m,s.heap.Ns X.env.locals m∧∀ (i:Nat) (x:Str) (v:V),X.N[i]?=some x→σ[i]?=some (some v)→Vis X.env.scope x→∃ u,RelV v u∧Look X.env s.heap m x u
 cell:∀ x c,X.env.cells.lookup x=some c→∃ v,s.heap.IsCell c v
 free:H X.env.locals=none
 freeC:∀ x c,X.env.cells.lookup x=some c→H c=none
 pin:∀ p∈X.pn++pins,s.heap.get? p.1=some p.2∧H p.1=none∧p.1≠X.env.locals∧p.1 ∉ X.fs∧∀ v,p.2.data≠.cell v
 hok:HOk X.prog X.w H s.heap
 len:σ.length=X.N.length
section
variable {X:Cx} {pins:List (Addr×Obj)} {σ:List (Option V)} {H H':Hp} {s:Shared} {h':Heap}
theorem Cx.Ok.nofr (ok:X.Ok) {b:Addr} {o:Obj} (e:X.base.get? b=some o):b ∉ X.fs:=fun hb=>by
 have:=(ok.funs.mem hb).1
 rw [e] at this; cases this
theorem Inv.bs (I:Inv X pins σ H s):∀ b o,X.base.get? b=some o→s.heap.get? b=some o∧H b=none:=fun b o e =>
 ⟨I.base.keep b o (I.ok.bs b o e).1 (I.ok.bs b o e).2 (I.ok.nofr e) (I.ok.noex b o e),I.base.free b o (I.ok.bs b o e).1 (I.ok.bs b o e).2 (I.ok.noex b o e)⟩
theorem Inv.bk (I:Inv X pins σ H s):∀ b o,X.base.get? b=some o→s.heap.get? b=some o:=fun b o e=>(I.bs b o e).1
theorem Inv.mod (I:Inv X pins σ H s):Mod X.K X.mg X.base:=I.ok.mod
theorem Inv.kIn (I:Inv X pins σ H s):X.K.In s.heap:=I.ok.mod.kin.keeps I.bk
theorem Inv.lt (I:Inv X pins σ H s):X.env.locals < s.heap.objs.size:=let ⟨_,hn,_⟩:=I.loc; hn.lt
theorem Inv.sz (I:Inv X pins σ H s):X.s₀.heap.objs.size≤s.heap.objs.size:=Nat.le_trans I.ok.above (Nat.le_of_lt I.lt)
theorem Inv.nofs (I:Inv X pins σ H s) {a:Addr} (h:s.heap.objs.size≤a):a ∉ X.fs:=fun hb=>by
 obtain ⟨_,o,ho,_⟩:=I.ok.funs.mem hb
 exact absurd (Nat.lt_of_lt_of_le (Heap.lt_size ho) (Nat.le_trans I.sz h)) (Nat.lt_irrefl _)
theorem Inv.cne (I:Inv X pins σ H s):∀ x c,X.env.cells.lookup x=some c→c≠X.env.locals:=fun x c e z=>by
 obtain ⟨v,o,ho,hd⟩:=I.cell x c e
 obtain ⟨m,⟨o',es,ep,ho',hd',_⟩,_⟩:=I.loc
 rw [z,ho'] at ho; cases ho; rw [hd'] at hd; cases hd
theorem Inv.funs (I:Inv X pins σ H s):s.heap.FunFrames X.base X.outer:=by
 have all:∀ (l:List Env),(∀ b∈frs l,b∈X.fs)→X.s₀.heap.FunFrames X.base l→s.heap.FunFrames X.base l:=by
  intro l
  induction l with
  | nil=>intro _ _; trivial
  | cons env r ih =>
   intro hs hl
   obtain ⟨hk,⟨L,o,hf,hn,ho,hd⟩,hr⟩:=hl
   have hL:L∈X.fs:=hs L (by unfold frs; rw [List.filterMap_cons,hf]; exact List.mem_cons_self)
   obtain ⟨sl,e⟩:=I.base.slot L o ho (I.ok.frf L hL) hL fun z=>I.ok.exfs L z hL
   exact ⟨hk,⟨L,_,hf,hn,e,hd⟩,ih (fun b hb=>hs b (by unfold frs; rw [List.filterMap_cons,hf]; exact List.mem_cons_of_mem _ hb)) hr⟩
 exact all X.outer (fun _ hb=>hb) I.ok.funs
theorem Inv.stack (I:Inv X pins σ H s):s.heap.FunFrames X.base X.stack:=by
 rcases I.ok.stk with e | ⟨e,hf⟩
 ·rw [e]; exact I.funs
 ·rw [e]
  obtain ⟨m,hn,_⟩:=I.loc
  refine .cons (by rw [I.ok.kind]; decide) hf hn ?_ I.funs
  exact Heap.get?_none_of_le (Nat.le_trans I.ok.bsz I.ok.above)
theorem Inv.stkSub (I:Inv X pins σ H s):∀ b∈frs X.stack,b∈X.env.locals::X.fs:=fun b hb=>by
 rcases I.ok.stk with e | ⟨e,hf⟩
 ·rw [e] at hb; exact List.mem_cons_of_mem _ hb
 ·rw [e] at hb
  unfold frs at hb
  rw [List.filterMap_cons,hf] at hb
  exact hb
theorem Inv.stkFree (I:Inv X pins σ H s):∀ b∈frs X.stack,H b=none:=fun b hb=>by
 rcases List.mem_cons.mp (I.stkSub b hb) with e | hb
 ·rw [e]; exact I.free
 ·obtain ⟨_,o,ho,_⟩:=I.ok.funs.mem hb
  exact I.base.free b o ho (I.ok.frf b hb) fun z=>I.ok.exfs b z hb
theorem Inv.step {g':Array GenState} {t':Nat} {d':Drawn} {ch:List Addr} (I:Inv X pins σ H s)
  (hch:∀ b∈ch,(b∈X.ex∨X.s₀.heap.objs.size≤b)∧b≠X.env.locals∧(∀ x c,X.env.cells.lookup x=some c→c≠b)∧∀ p∈X.pn++pins,p.1≠b)
  (keep:∀ b o,b≠X.env.locals→b ∉ X.fs→b ∉ ch→s.heap.get? b=some o→H b=none→h'.get? b=some o)
  (slot:∀ b o,b≠X.env.locals→b∈X.fs→b ∉ ch→s.heap.get? b=some o→H b=none→∃ sl,h'.get? b=some { o with slots:=sl }) (free:∀ b o,b ∉ ch→s.heap.get? b=some o→H b=none→H' b=none)
  (there:∀ b o,b ∉ ch→s.heap.get? b=some o→∃ o',h'.get? b=some o')
  (tups:∀ b xs,H b=some (.tup xs)→H' b=some (.tup xs)) (frzs:∀ b o u,H b=some (.frz o u)→H' b=some (.frz o u)) (tbls:∀ b ps,H b=some (.tbl ps)→∃ more,H' b=some (.tbl (ps++more)))
  (ns:∀ m,s.heap.Ns X.env.locals m→h'.Ns X.env.locals m) (hok:HOk X.prog X.w H' h') (hg:AllBare g') :
  Inv X pins σ H' { s with heap:=h',gens:=g',drawn:=d',toks:=t' }:=by
 have neL:∀ b o,X.s₀.heap.get? b=some o→b≠X.env.locals:=fun b o e=>Nat.ne_of_lt (Nat.lt_of_lt_of_le (Heap.lt_size e) I.ok.above)
 have neC:∀ b o,X.s₀.heap.get? b=some o→b ∉ X.ex→b ∉ ch:=fun b o e hx hb=>by
  rcases (hch b hb).1 with z | z
  ·exact hx z
  ·exact absurd (Nat.lt_of_lt_of_le (Heap.lt_size e) z) (Nat.lt_irrefl _)
 have cellK:∀ x c,X.env.cells.lookup x=some c→∀ v,s.heap.IsCell c v→h'.IsCell c v:=fun x c e v ⟨o,ho,hd⟩=>by
  have nch:c ∉ ch:=fun z=>(hch c z).2.2.1 x c e rfl
  by_cases hc:c∈X.fs
  ·obtain ⟨sl,q⟩:=slot c o (I.cne x c e) hc nch ho (I.freeC x c e)
   exact ⟨_,q,hd⟩
  ·exact ⟨o,keep c o (I.cne x c e) hc nch ho (I.freeC x c e),hd⟩
 refine ⟨I.ok,I.os,hg,⟨fun b o e n hb hx=>?_,fun b o e n hb hx=>?_,fun b o e n hx=>?_,fun b o e hx=>?_,fun b xs e=>tups b xs (I.base.tups b xs e),fun b o xs e=>frzs b o xs (I.base.frzs b o xs e),fun b ps e=>?_⟩,?_,fun x c e=>?_,?_,fun x c e=>?_,fun p hp=>?_,hok,I.len⟩
 ·exact keep b o (neL b o e) hb (neC b o e hx) (I.base.keep b o e n hb hx) (I.base.free b o e n hx)
 ·obtain ⟨sl,e1⟩:=I.base.slot b o e n hb hx
  obtain ⟨sl',e2⟩:=slot b _ (neL b o e) hb (neC b o e hx) e1 (I.base.free b o e n hx)
  exact ⟨sl',e2⟩
 ·obtain ⟨o',e1⟩:=I.base.there b o e hx
  exact free b o' (neC b o e hx) e1 (I.base.free b o e n hx)
 ·obtain ⟨o',e1⟩:=I.base.there b o e hx
  exact there b o' (neC b o e hx) e1
 ·obtain ⟨m1,e1⟩:=I.base.tbls b ps e
  obtain ⟨m2,e2⟩:=tbls b _ e1
  exact ⟨m1++m2,by rw [e2,Array.append_assoc]⟩
 ·obtain ⟨m,hn,hl⟩:=I.loc
  refine ⟨m,ns m hn,fun i x v e1 e2 e3=>?_⟩
  obtain ⟨u,r,l⟩:=hl i x v e1 e2 e3
  refine ⟨u,r,?_⟩
  rcases l with l | ⟨k,c,e,z⟩
  ·exact .inl l
  ·exact .inr ⟨k,c,e,cellK x c e _ z⟩
 ·obtain ⟨v,z⟩:=I.cell x c e
  exact ⟨v,cellK x c e v z⟩
 ·obtain ⟨m,⟨o,_,_,ho,_⟩,_⟩:=I.loc
  exact free _ o (fun z=>(hch _ z).2.1 rfl) ho I.free
 ·obtain ⟨v,o,ho,hd⟩:=I.cell x c e
  exact free c o (fun z=>(hch c z).2.2.1 x c e rfl) ho (I.freeC x c e)
 ·obtain ⟨e,n,ne,nf,d⟩:=I.pin p hp
  have nch:p.1 ∉ ch:=fun z=>(hch p.1 z).2.2.2 p hp rfl
  exact ⟨keep p.1 p.2 ne nf nch e n,free p.1 p.2 nch e n,ne,nf,d⟩
theorem Inv.un {t':Nat} (I:Inv X pins σ H s) (u:Un X.fs [] H H' s.heap h') (hok:HOk X.prog X.w H' h'):Inv X pins σ H' { s with heap:=h',toks:=t' }:=by
 obtain ⟨m,⟨o,es,ep,ho,r⟩,_⟩:=id I.loc
 obtain ⟨sl,hL⟩:=u.any ho I.free (by simp)
 exact I.step (g':=s.gens) (d':=s.drawn) (ch:=[]) (fun _ z=>nomatch z) (fun b o _ hb _ e n=>u.keep b o e n hb (by simp)) (fun b o _ hb _ e n=>u.slot b o e n hb (by simp)) (fun b o _ e n=>u.free b o e n (by simp)) (fun b o _ e=>u.there b o e (by simp)) u.tups u.frzs u.tbls (fun m' hm=>by
  obtain ⟨o',es',ep',ho',r'⟩:=hm
  rw [ho] at ho'; cases ho'
  exact ⟨_,es',ep',hL,r'⟩) hok I.bare
theorem Inv.call {g':Array GenState} {t':Nat} {d':Drawn} {ch:List Addr} (I:Inv X pins σ H s) (u:Un (frs X.stack) ch H H' s.heap h') (hok:HOk X.prog X.w H' h') (hg:AllBare g')
  (hch:∀ b∈ch,(b∈X.ex∨X.s₀.heap.objs.size≤b)∧b≠X.env.locals∧(∀ x c,X.env.cells.lookup x=some c→c≠b)∧∀ p∈X.pn++pins,p.1≠b) :
  Inv X pins σ H' { s with heap:=h',gens:=g',drawn:=d',toks:=t' }:=by
 obtain ⟨m,⟨o,es,ep,ho,r⟩,_⟩:=id I.loc
 obtain ⟨sl,hL⟩:=u.any ho I.free fun z=>(hch _ z).2.1 rfl
 exact I.step (ch:=ch) hch (fun b o hL hb hc e n=>u.keep b o e n (fun z=>(List.mem_cons.mp (I.stkSub b z)).elim hL hb) hc) (fun b o _ _ hc e n=>u.any e n hc) (fun b o hc e n=>u.free b o e n hc) (fun b o hc e=>u.there b o e hc) u.tups u.frzs u.tbls (fun m' hm=>by
  obtain ⟨o',es',ep',ho',r'⟩:=hm
  rw [ho] at ho'; cases ho'
  exact ⟨_,es',ep',hL,r'⟩) hok hg
theorem Inv.turned {t':Nat} {it:Addr} (I:Inv X pins σ H s) (k:∀ b o,b≠it→s.heap.get? b=some o→h'.get? b=some o) (hn:H it=none) (hL:it≠X.env.locals)
  (h1:it∈X.ex∨X.s₀.heap.objs.size≤it) (h2:∀ x c,X.env.cells.lookup x=some c→c≠it) (h3:∀ p∈X.pn++pins,p.1≠it):Inv X pins σ H { s with heap:=h',toks:=t' }:=by
 have nit:∀ b u,H b=some u→b≠it:=fun b u e z=>by rw [z,hn] at e; cases e
 refine I.step (g':=s.gens) (d':=s.drawn) (ch:=[it]) (fun b hb=>?_) (fun b o _ _ hc e _=>k b o (fun z=>hc (by simp [z])) e) (fun b o _ _ hc e _=>⟨o.slots,k b o (fun z=>hc (by simp [z])) e⟩) (fun _ _ _ _ n=>n)
  (fun b o hc e=>⟨o,k b o (fun z=>hc (by simp [z])) e⟩) (fun _ _ e=>e) (fun _ _ _ e=>e) (fun b ps e=>⟨#[],by rw [e]; simp⟩) (fun m hm=>?_) (fun b u e=>?_) I.bare
 ·have e:b=it:=by simpa using hb
  subst e
  exact ⟨h1,hL,h2,h3⟩
 ·obtain ⟨o,es,ep,ho,r⟩:=hm
  exact ⟨o,es,ep,k _ o (Ne.symm hL) ho,r⟩
 ·refine (I.hok b u e).stay (fun c v hc q=>k c v ?_ q) (fun _ q=>q) fun _ _ q=>q
  rcases hc with z | z
  ·rw [z]; exact nit b u e
  ·exact nit c _ z
theorem Inv.tok (I:Inv X pins σ H s) (t:Nat):Inv X pins σ H { s with toks:=t }:=I.un (h':=s.heap) (t':=t) Un.refl I.hok
theorem Inv.kept {t':Nat} (I:Inv X pins σ H s) (k:∀ b u,s.heap.get? b=some u→h'.get? b=some u):Inv X pins σ H { s with heap:=h',toks:=t' }:=I.un (Un.kept k) (I.hok.kept k)
theorem Inv.laid {a:Addr} {o:HO} {t':Nat} (I:Inv X pins σ H s) (k:∀ b u,s.heap.get? b=some u→h'.get? b=some u) (hp:s.heap.objs.size≤a) (new:ObjOk X.prog X.w (upd H a o) h' a o) :
  Inv X pins σ (upd H a o) { s with heap:=h',toks:=t' }:=I.un (Un.laid k hp (I.hok.fresh hp)) (I.hok.laid k hp new)
theorem Inv.write {x e:Addr} {o:HO} {t':Nat} (I:Inv X pins σ H s) (mu:Mut (H x)) (he:e=x∨H e=some (.own x)) (k:∀ b u,b≠e→s.heap.get? b=some u→h'.get? b=some u) (heo:∃ u,h'.get? e=some u)
  (new:ObjOk X.prog X.w (upd H x o) h' x o):Inv X pins σ (upd H x o) { s with heap:=h',toks:=t' }:=I.un (Un.write mu he k heo) (I.hok.write mu he k heo new)
theorem Inv.weak {σ':List (Option V)} (I:Inv X pins σ H s) (hl:σ'.length=σ.length) (w:∀ (i:Nat) v,σ'[i]?=some (some v)→σ[i]?=some (some v)):Inv X pins σ' H s :=
 ⟨I.ok,I.os,I.bare,I.base,let ⟨m,hn,hl'⟩:=I.loc; ⟨m,hn,fun i x v e1 e2 e3=>hl' i x v e1 (w i v e2) e3⟩,I.cell,I.free,I.freeC,I.pin,I.hok,hl.trans I.len⟩
theorem Inv.pins_of {pins':List (Addr×Obj)} (I:Inv X pins σ H s) (h:∀ p∈pins',s.heap.get? p.1=some p.2∧H p.1=none∧p.1≠X.env.locals∧p.1 ∉ X.fs∧∀ v,p.2.data≠.cell v):Inv X pins' σ H s :=
 ⟨I.ok,I.os,I.bare,I.base,I.loc,I.cell,I.free,I.freeC,fun p hp=>(List.mem_append.mp hp).elim (fun z=>I.pin p (List.mem_append_left _ z)) (h p),I.hok,I.len⟩
theorem nodup_ix {N:List Str} (hN:N.Nodup) {i j:Nat} {x:Str} (a:N[i]?=some x) (b:N[j]?=some x):i=j:=by
 obtain ⟨h1,e1⟩:=List.getElem?_eq_some_iff.mp a
 obtain ⟨h2,e2⟩:=List.getElem?_eq_some_iff.mp b
 exact (List.getElem_inj hN).mp (e1.trans e2.symm)
theorem store_ok2 {M:Model} {A:Around} {E:Value→Shared→Prop} {i:Nat} {x:Str} {v:V} {u:Value} {Q:Unit→Shared→Prop} (I:Inv X pins σ H s) (hN:X.N.Nodup) (hi:X.N[i]?=some x) (hx:Loc X.env.scope x) (r:RelV v u)
  (h:∀ s',Inv X pins (σ.set i (some v)) H s'→(∃ a,Heap.SameBut a s.heap s'.heap∧(a=X.env.locals∨X.env.cells.lookup x=some a))→Q () s') (hf:X.fn x=true∨X.env.scope.names.lookup x=some .local:=by first | exact .inl rfl | exact .inr rfl | assumption):wpAny M A (storeName X.env x u) Q E s:=by
 obtain ⟨m,hn,hl⟩:=id I.loc
 have hcls:(X.env.scope.kind == .class || (X.env.scope.kind == .module && X.env.locals != X.env.globals))=false:=by rw [I.ok.kind]; rfl
 have hiσ:i < σ.length:=by rw [I.len]; exact (List.getElem?_eq_some_iff.mp hi).1
 have cne:=I.cne
 have tracked:∀ {a:Addr} {h':Heap},(∃ o,s.heap.get? a=some o∧H a=none)→Heap.SameBut a s.heap h'→HOk X.prog X.w H h':=fun {a h'} ha hs b ob e=>by
  obtain ⟨_,_,hfree⟩:=ha
  refine (I.hok b ob e).stay (fun c w' hc q=>(hs.2 c ?_).trans q) (fun _ q=>q) fun _ _ q=>q
  rintro rfl
  rcases hc with rfl | hc
  ·rw [hfree] at e; cases e
  ·rw [hfree] at hc; cases hc
 rcases hx with hk | hk
 ·refine wpAny_storeName_local hk hn (fun h' hn' hs=>?_) hcls
  obtain ⟨oL,_,_,hoL,_⟩:=id hn
  refine h _ ⟨I.ok,I.os,I.bare,⟨fun b o e n hb hx=>?_,fun b o e n hb hx=>?_,I.base.free,fun b o e hx=>?_,I.base.tups,I.base.frzs,I.base.tbls⟩,⟨_,hn',fun j y v' e1 e2 e3=>?_⟩,fun y c e=>?_,I.free,I.freeC,fun p hp=>?_,tracked ⟨oL,hoL,I.free⟩ hs,by simpa using I.len⟩ ⟨_,hs,.inl rfl⟩
  ·exact (hs.2 b (Nat.ne_of_lt (Nat.lt_of_lt_of_le (Heap.lt_size e) I.ok.above))).trans (I.base.keep b o e n hb hx)
  ·obtain ⟨sl,e1⟩:=I.base.slot b o e n hb hx
   exact ⟨sl,(hs.2 b (Nat.ne_of_lt (Nat.lt_of_lt_of_le (Heap.lt_size e) I.ok.above))).trans e1⟩
  ·obtain ⟨o',e1⟩:=I.base.there b o e hx
   exact ⟨o',(hs.2 b (Nat.ne_of_lt (Nat.lt_of_lt_of_le (Heap.lt_size e) I.ok.above))).trans e1⟩
  ·by_cases hj:j=i
   ·subst hj
    rw [hi] at e1; cases e1
    rw [List.getElem?_set_self hiσ] at e2
    cases e2
    exact ⟨u,r,.inl ⟨hk,by simp⟩⟩
   ·rw [List.getElem?_set_ne (Ne.symm hj)] at e2
    obtain ⟨u',r',q⟩:=hl j y v' e1 e2 e3
    refine ⟨u',r',?_⟩
    rcases q with ⟨k,e⟩ | ⟨k,c,e,z⟩
    ·refine .inl ⟨k,?_⟩
     have:y≠x:=fun e=>hj (nodup_ix hN e1 (e ▸ hi))
     simp [this,e]
    ·exact .inr ⟨k,c,e,z.sameBut hs (cne y c e)⟩
  ·obtain ⟨w',z⟩:=I.cell y c e
   exact ⟨w',z.sameBut hs (cne y c e)⟩
  ·obtain ⟨e,n,ne,nf,d⟩:=I.pin p hp
   exact ⟨(hs.2 p.1 ne).trans e,n,ne,nf,d⟩
 ·have hfn:X.fn x=true:=by
   rcases hf with z | z
   ·exact z
   ·rw [z] at hk; cases hk
  obtain ⟨c,hc⟩:=I.ok.has x (.inl hk)
  obtain ⟨w',z⟩:=I.cell x c hc
  refine wpAny_storeName_cell I.ok.kind hk hc z (fun h' hc' hs=>?_)
  obtain ⟨oc,hoc,hocd⟩:=id z
  refine h { s with heap:=h' } ⟨I.ok,I.os,I.bare,⟨fun b o e n hb hx=>?_,fun b o e n hb hx=>?_,I.base.free,fun b o e hx=>?_,I.base.tups,I.base.frzs,I.base.tbls⟩,⟨m,hn.sameBut hs (Ne.symm (cne x c hc)),fun j y v' e1 e2 e3=>?_⟩,fun y c' e=>?_,I.free,I.freeC,fun p hp=>?_,tracked ⟨oc,hoc,I.freeC x c hc⟩ hs,by simpa using I.len⟩ ⟨c,hs,.inr hc⟩
  ·exact (hs.2 b (Nat.ne_of_lt (Nat.lt_of_lt_of_le (Heap.lt_size e) (I.ok.cab x c hfn hc)))).trans (I.base.keep b o e n hb hx)
  ·obtain ⟨sl,e1⟩:=I.base.slot b o e n hb hx
   exact ⟨sl,(hs.2 b (Nat.ne_of_lt (Nat.lt_of_lt_of_le (Heap.lt_size e) (I.ok.cab x c hfn hc)))).trans e1⟩
  ·obtain ⟨o',e1⟩:=I.base.there b o e hx
   exact ⟨o',(hs.2 b (Nat.ne_of_lt (Nat.lt_of_lt_of_le (Heap.lt_size e) (I.ok.cab x c hfn hc)))).trans e1⟩
  ·by_cases hj:j=i
   ·subst hj
    rw [hi] at e1; cases e1
    rw [List.getElem?_set_self hiσ] at e2
    cases e2
    exact ⟨u,r,.inr ⟨.inl hk,c,hc,hc'⟩⟩
   ·rw [List.getElem?_set_ne (Ne.symm hj)] at e2
    obtain ⟨u',r',q⟩:=hl j y v' e1 e2 e3
    refine ⟨u',r',?_⟩
    rcases q with q | ⟨k,c',e,z'⟩
    ·exact .inl q
    ·refine .inr ⟨k,c',e,z'.sameBut hs ?_⟩
     rintro rfl
     exact hj (nodup_ix hN e1 (I.ok.inj _ _ _ e hc ▸ hi))
  ·by_cases hcc:c'=c
   ·subst hcc; exact ⟨_,hc'⟩
   ·obtain ⟨w2,z2⟩:=I.cell y c' e
    exact ⟨w2,z2.sameBut hs hcc⟩
  ·obtain ⟨e,n,ne,nf,d⟩:=I.pin p hp
   refine ⟨(hs.2 p.1 ?_).trans e,n,ne,nf,d⟩
   intro q
   rw [q,hoc] at e
   have q':oc=p.2:=Option.some.inj e
   exact d w' (by rw [← q']; exact hocd)
theorem store_ok {M:Model} {A:Around} {E:Value→Shared→Prop} {i:Nat} {x:Str} {v:V} {u:Value} {Q:Unit→Shared→Prop} (I:Inv X pins σ H s) (hN:X.N.Nodup) (hi:X.N[i]?=some x) (hx:Loc X.env.scope x) (r:RelV v u)
  (h:∀ s',Inv X pins (σ.set i (some v)) H s'→Q () s') (hf:X.fn x=true∨X.env.scope.names.lookup x=some .local:=by first | exact .inl rfl | exact .inr rfl | assumption):wpAny M A (storeName X.env x u) Q E s :=
 store_ok2 I hN hi hx r (fun s' I' _=>h s' I') hf
theorem Inv.call' {s':Shared} {ch:List Addr} (I:Inv X pins σ H s) (ho:s'.os=s.os) (u:Un (frs X.stack) ch H H' s.heap s'.heap) (hok:HOk X.prog X.w H' s'.heap) (hg:AllBare s'.gens)
  (hch:∀ b∈ch,(b∈X.ex∨X.s₀.heap.objs.size≤b)∧b≠X.env.locals∧(∀ x c,X.env.cells.lookup x=some c→c≠b)∧∀ p∈X.pn++pins,p.1≠b):Inv X pins σ H' s':=by
 obtain ⟨h',g',d',t',o'⟩:=s'
 have e:o'=s.os:=ho
 subst e
 exact I.call (g':=g') (t':=t') (d':=d') u hok hg hch
end
abbrev XK:=Value→Option Addr→Hp→Prop
abbrev St:=List (Option V)
abbrev VK:=V→Hp→Prop
abbrev TE:=St→Hp→VK→Prop
abbrev TT:=St→Hp→(Bool→Hp→Prop)→Prop
abbrev TA:=St→Hp→(List V→Hp→Prop)→Prop
structure Ends where
 nx:St→Hp→Prop
 rt:VK
 bk:St→Hp→Prop:=fun _ _=>False
 ct:St→Hp→Prop:=fun _ _=>False
abbrev TS:=Ends→St→Hp→Prop
def EP (X:Cx) (pins:List (Addr×Obj)) (σ:St) (Q:VK) (u:Value) (s':Shared):Prop:=∃ v H',Inv X pins σ H' s'∧RelV v u∧Q v H'
def TP (X:Cx) (pins:List (Addr×Obj)) (σ:St) (Q:Bool→Hp→Prop) (b:Bool) (s':Shared):Prop:=∃ H',Inv X pins σ H' s'∧Q b H'
def AP (X:Cx) (pins:List (Addr×Obj)) (σ:St) (Q:List V→Hp→Prop) (us:List Value) (s':Shared):Prop:=∃ vs H',Inv X pins σ H' s'∧Vals vs us∧Q vs H'
def SP (X:Cx) (pins:List (Addr×Obj)) (D:Ends) (f:Flow) (s':Shared):Prop :=
 match f with
 | .next=>∃ σ' H',Inv X pins σ' H' s'∧D.nx σ' H'
 | .brk=>∃ σ' H',Inv X pins σ' H' s'∧D.bk σ' H'
 | .cont=>∃ σ' H',Inv X pins σ' H' s'∧D.ct σ' H'
 | .ret u=>∃ v σ' H',Inv X pins σ' H' s'∧RelV v u∧D.rt v H'
def PE (X:Cx) (e:Expr) (t:TE):Prop :=
 ∀ (pins:List (Addr×Obj)) (s:Shared) (σ:St) (H:Hp) (Q:VK),Inv X pins σ H s→t σ H Q→wpAny (model X.prog X.w) X.A (eval e X.env) (EP X pins σ Q) X.xe s
def PT (X:Cx) (e:Expr) (t:TT):Prop :=
 ∀ (pins:List (Addr×Obj)) (s:Shared) (σ:St) (H:Hp) (Q:Bool→Hp→Prop),Inv X pins σ H s→t σ H Q→wpAny (model X.prog X.w) X.A (isTrue e X.env (eval e X.env)) (TP X pins σ Q) X.xe s
def PW (X:Cx) (e:Expr) (t:TT):Prop :=
 ∀ (whole:Sem Value) (pins:List (Addr×Obj)) (s:Shared) (σ:St) (H:Hp) (Q:Bool→Hp→Prop),Inv X pins σ H s→t σ H Q→wpAny (model X.prog X.w) X.A (isTrue e X.env whole) (TP X pins σ Q) X.xe s
theorem PW.pt {X:Cx} {e:Expr} {t:TT} (h:PW X e t):PT X e t:=h _
def PA (X:Cx) (es:List Expr) (t:TA):Prop :=
 ∀ (pos:Pos) (pins:List (Addr×Obj)) (s:Shared) (σ:St) (H:Hp) (Q:List V→Hp→Prop),Inv X pins σ H s→t σ H Q→wpAny (model X.prog X.w) X.A (spliced (backTo pos (starEach es X.env))) (AP X pins σ Q) X.xe s
def PS (X:Cx) (st:Stmt) (t:TS):Prop :=
 ∀ (pins:List (Addr×Obj)) (s:Shared) (σ:St) (H:Hp) (D:Ends),Inv X pins σ H s→t D σ H→wpAny (model X.prog X.w) X.A (exec st X.env) (SP X pins D) X.xe s
def PSs (X:Cx) (st:List Stmt) (t:TS):Prop :=
 ∀ (pins:List (Addr×Obj)) (s:Shared) (σ:St) (H:Hp) (D:Ends),Inv X pins σ H s→t D σ H→wpAny (model X.prog X.w) X.A (execs st X.env) (SP X pins D) X.xe s
theorem thn {α:Type} {t:Sem α} {Q Q':α→Shared→Prop} {M:Model} {A:Around} {E:Value→Shared→Prop} {s:Shared} (h:wpAny M A t Q E s) (hQ:∀ a s,Q a s→Q' a s):wpAny M A t Q' E s:=wpAny_mono h hQ fun _ _ x=>x
section
variable {X:Cx}
def tVar (i:Nat):TE:=fun σ H Q=>∃ v,σ[i]?=some (some v)∧Q v H
def tC (v:V):TE:=fun _ H Q=>Q v H
theorem pe_var {i:Nat} {x:Str} {pos:Pos} (hN:X.N[i]?=some x) (hv:Vis X.env.scope x) (hd:(x == ("__debug__" : Str))=false:=by decide) (hcd:(x == ("__classdict__" : Str))=false:=by decide):PE X (.Name x pos) (tVar i):=by
 intro pins s σ H Q I h
 obtain ⟨v,e,h⟩:=h
 obtain ⟨m,hn,hl⟩:=I.loc
 obtain ⟨u,r,l⟩:=hl i x v hN e hv
 have fin:EP X pins σ Q u s:=⟨v,H,I,r,h⟩
 rcases l with ⟨hk,hm⟩ | ⟨hk,c,hc,hcell⟩
 ·exact wpAny_Name (wpAny_loadName_local I.ok.kind hk hn hm fin) hd
 ·rcases hk with hk | hk
  ·exact wpAny_Name (wpAny_loadName_cell I.ok.kind hk hc hcell fin) hd
  ·exact wpAny_Name (wpAny_loadName_free I.ok.kind hk hc hcell fin hcd) hd
theorem pe_int {i j pos}:PE X (.Constant (.int i) j pos) (tC (.int i)):=fun _ _ _ H _ I h=>wpAny_Constant_int ⟨.int i,H,I.tok _,⟨_,rfl⟩,h⟩
theorem pe_bl {b j pos}:PE X (.Constant (.bool b) j pos) (tC (.bl b)):=fun _ _ _ H _ I h=>Constant_bool ⟨.bl b,H,I,rfl,h⟩
theorem pe_non {j pos}:PE X (.Constant .none j pos) (tC .non):=fun _ _ _ H _ I h=>Constant_none ⟨.non,H,I,rfl,h⟩
theorem pe_str {x j pos}:PE X (.Constant (.str x) j pos) (tC (.str x)):=fun _ _ _ H _ I h=>Calls.Constant_str ⟨.str x,H,I.tok _,⟨_,rfl⟩,h⟩
def Gl (X:Cx) (x:Str):Prop:=X.env.kindOf x=some .globalImplicit
theorem ld_glob {E:Value→Shared→Prop} {pins:List (Addr×Obj)} {s:Shared} {σ:St} {H:Hp} {x:Str} {u:Value} {pos:Pos} {Q:Value→Shared→Prop} (I:Inv X pins σ H s) (hg:Gl X x) (hm:X.mg x=some u) (h:Q u s)
  (hd:(x == ("__debug__" : Str))=false:=by decide):wpAny (model X.prog X.w) X.A (eval (.Name x pos) X.env) Q E s :=
 Calls.Name_function_global I.ok.kind hg (Calls.loadGlobal_global (by rw [I.ok.glob]; exact I.mod.glob.keeps I.bk) hm h) hd
theorem ld_blt {E:Value→Shared→Prop} {pins:List (Addr×Obj)} {s:Shared} {σ:St} {H:Hp} {x:Str} {u:Value} {pos:Pos} {Q:Value→Shared→Prop} (I:Inv X pins σ H s) (hg:Gl X x) (hm:X.mg x=none) (hv:bootBuiltins x=some u) (h:Q u s)
  (hn:x ≠ "__name__" := by decide) (hd:(x == ("__debug__" : Str))=false:=by decide):wpAny (model X.prog X.w) X.A (eval (.Name x pos) X.env) Q E s:=by
 obtain ⟨mb,h1,h2⟩:=I.mod.blt
 exact Calls.Name_function_global I.ok.kind hg (Calls.loadGlobal_builtin (by rw [I.ok.glob]; exact I.mod.glob.keeps I.bk) hm (by rw [I.ok.blt]; exact h1.keeps I.bk) ((h2 x hn).trans hv) h) hd
theorem pe_bltn {x:Str} {v:V} {u:Value} {pos:Pos} (hg:Gl X x) (hm:X.mg x=none) (hv:bootBuiltins x=some u) (r:RelV v u) (hn:x ≠ "__name__" := by decide) (hd:(x == ("__debug__" : Str))=false:=by decide):PE X (.Name x pos) (tC v) :=
 fun _ _ _ H _ I h=>ld_blt I hg hm hv ⟨v,H,I,r,h⟩ hn hd
variable {a b:Expr} {ta tb:TE} {pos:Pos}
def PC (X:Cx) (op:CmpOp) (a b:Expr) (t:TE):Prop :=
 ∀ (pins:List (Addr×Obj)) (s:Shared) (σ:St) (H:Hp) (Q:VK),Inv X pins σ H s→t σ H Q →
  wpAny (model X.prog X.w) X.A (eval a X.env) (fun v s₁=>wpAny (model X.prog X.w) X.A (eval b X.env) (fun u s₂=>wpAny (model X.prog X.w) X.A (compareOp op v u) (EP X pins σ Q) X.xe s₂) X.xe s₁) X.xe s
def tB (t:TE):TT:=fun σ H Q=>t σ H fun x H1=>∃ c,x=.bl c∧Q c H1
theorem pe_cmp {op:CmpOp} {t:TE} (h:PC X op a b t) (h1:behindInMarks op b=false:=by first | exact nobehind _ (by decide) (by decide) | rfl):PE X (.Compare a [op] [b] pos) t:=fun pins s σ H Q I hw=>wpAny_Compare1 (h pins s σ H Q I hw) h1
theorem pt_cmp {op:CmpOp} {t:TE} (h:PC X op a b t) (h1:behindInMarks op b=false:=by first | exact nobehind _ (by decide) (by decide) | rfl):PT X (.Compare a [op] [b] pos) (tB t):=by
 intro pins s σ H Q I hw
 refine wpAny_isTrue_Compare1 (thn (h pins s σ H _ I hw) fun v s1 h1=>thn h1 fun u s2 h2=>thn h2 fun c s3 ⟨x,H1,I1,r1,q1⟩=>?_) h1
 obtain ⟨d,rfl,q⟩:=q1
 cases r1
 exact wpAny_truthy_bool ⟨H1,I1,q⟩
variable {tA tB':TT} {rest:List Expr}
def tAnd (t u:TT):TT:=fun σ H Q=>t σ H fun c H1=>if c=true then u σ H1 Q else Q false H1
def tOr (t u:TT):TT:=fun σ H Q=>t σ H fun c H1=>if c=true then Q true H1 else u σ H1 Q
def tNot (t:TT):TT:=fun σ H Q=>t σ H fun c H1=>Q (!c) H1
theorem pw_and1 (ha:PT X a tA):PW X (.BoolOp .And [a] pos) tA:=by
 intro wh pins s σ H Q I h
 refine isTrue_and (thn (ha pins s σ H Q I h) fun c s1 e=>?_)
 cases c with
 | true=>exact isTrue_and_nil e
 | false=>exact e
theorem pw_or1 (ha:PT X a tA):PW X (.BoolOp .Or [a] pos) tA:=by
 intro wh pins s σ H Q I h
 refine isTrue_or (thn (ha pins s σ H Q I h) fun c s1 e=>?_)
 cases c with
 | false=>exact isTrue_or_nil e
 | true=>exact e
theorem pw_and (ha:PT X a tA) (hb:PW X (.BoolOp .And (b::rest) pos) tB'):PW X (.BoolOp .And (a::b::rest) pos) (tAnd tA tB'):=by
 intro wh pins s σ H Q I h
 refine isTrue_and (thn (ha pins s σ H _ I h) fun c s1 ⟨H1,I1,q1⟩=>?_)
 cases c with
 | true=>exact hb wh pins s1 σ H1 Q I1 q1
 | false=>exact ⟨H1,I1,q1⟩
theorem pw_or (ha:PT X a tA) (hb:PW X (.BoolOp .Or (b::rest) pos) tB'):PW X (.BoolOp .Or (a::b::rest) pos) (tOr tA tB'):=by
 intro wh pins s σ H Q I h
 refine isTrue_or (thn (ha pins s σ H _ I h) fun c s1 ⟨H1,I1,q1⟩=>?_)
 cases c with
 | true=>exact ⟨H1,I1,q1⟩
 | false=>exact hb wh pins s1 σ H1 Q I1 q1
theorem pt_not (ha:PT X a tA):PT X (.UnaryOp .Not a pos) (tNot tA):=by
 intro pins s σ H Q I h
 exact isTrue_not (ha pins s σ H (fun c H1=>Q (!c) H1) I h)
def tAndV (ta tb:TE):TE:=fun σ H Q=>ta σ H fun x H1=>∃ c,x=.bl c∧if c=true then tb σ H1 Q else Q (.bl false) H1
def tOrV (ta tb:TE):TE:=fun σ H Q=>ta σ H fun x H1=>∃ c,x=.bl c∧if c=true then Q (.bl true) H1 else tb σ H1 Q
def tNotV (ta:TE):TE:=fun σ H Q=>ta σ H fun x H1=>∃ c,x=.bl c∧Q (.bl (!c)) H1
theorem pe_one {op} {t:TE} (h:PE X a t):PE X (.BoolOp op [a] pos) t:=fun pins s σ H Q I hw=>BoolOp_one (h pins s σ H Q I hw)
theorem pe_and (ha:PE X a ta) (hb:PE X (.BoolOp .And (b::rest) pos) tb):PE X (.BoolOp .And (a::b::rest) pos) (tAndV ta tb):=by
 intro pins s σ H Q I h
 refine BoolOp_and (thn (ha pins s σ H _ I h) fun v s1 ⟨x,H1,I1,r1,q1⟩=>?_)
 obtain ⟨c,rfl,q1⟩:=q1
 cases r1
 refine wpAny_truthy_bool ?_
 cases c with
 | true=>exact hb pins s1 σ H1 Q I1 q1
 | false=>exact ⟨.bl false,H1,I1,rfl,q1⟩
theorem pe_or (ha:PE X a ta) (hb:PE X (.BoolOp .Or (b::rest) pos) tb):PE X (.BoolOp .Or (a::b::rest) pos) (tOrV ta tb):=by
 intro pins s σ H Q I h
 refine BoolOp_or (thn (ha pins s σ H _ I h) fun v s1 ⟨x,H1,I1,r1,q1⟩=>?_)
 obtain ⟨c,rfl,q1⟩:=q1
 cases r1
 refine wpAny_truthy_bool ?_
 cases c with
 | false=>exact hb pins s1 σ H1 Q I1 q1
 | true=>exact ⟨.bl true,H1,I1,rfl,q1⟩
def tIf (t:TT) (ta tb:TE):TE:=fun σ H Q=>t σ H fun c H1=>if c=true then ta σ H1 Q else tb σ H1 Q
theorem pe_ifExp {c:Expr} (hc:PT X c tA) (ha:PE X a ta) (hb:PE X b tb):PE X (.IfExp c a b pos) (tIf tA ta tb):=by
 intro pins s σ H Q I h
 refine wpAny_IfExp (thn (hc pins s σ H _ I h) fun d s1 ⟨H1,I1,q1⟩=>?_)
 cases d with
 | true=>exact ha pins s1 σ H1 Q I1 q1
 | false=>exact hb pins s1 σ H1 Q I1 q1
end
def SqL (K:PySem.W.Frag) (H:Hp) (a:Addr) (xs:List V):Prop :=
 Rd H a (.lst xs) ∨
  ∃ (o:Obj) (its:Array Value) (n:Nat),K.lookup a=some o∧o.cls=.type "list" ∧ o.dict=none∧o.data=.seq its n∧its.size≤sizeLine∧Vals xs its.toList
def SqT (K:PySem.W.Frag) (H:Hp) (a:Addr) (xs:List V):Prop :=
 Rd H a (.tup xs) ∨
  ∃ (o:Obj) (its:Array Value) (n:Nat),K.lookup a=some o∧o.cls=.type "tuple" ∧ o.data=.seq its n∧its.size≤sizeLine∧Vals xs its.toList
noncomputable def absV:Value→Option V
 | .none=>some .non
 | .bool b=>some (.bl b)
 | .int i _=>some (.int i)
 | .str x _=>some (.str x)
 | .bytes b _=>some (.byt b)
 | .float b _=>some (.flt b)
 | .ref a=>some (.ref a)
 | .type n=>some (.ty n)
 | _=>none
theorem RelV.abs {x:V} {u:Value} (r:RelV x u):absV u=some x:=by
 cases x with
 | non=>cases r; rfl
 | bl _=>cases r; rfl
 | int _=>obtain ⟨t,rfl⟩:=r; rfl
 | str _=>obtain ⟨t,rfl⟩:=r; rfl
 | byt _=>obtain ⟨t,rfl⟩:=r; rfl
 | flt _=>obtain ⟨t,rfl⟩:=r; rfl
 | ref _=>cases r; rfl
 | ty _=>cases r; rfl
theorem RelV.inj {x y:V} {u:Value} (r:RelV x u) (q:RelV y u):x=y:=Option.some.inj (r.abs.symm.trans q.abs)
theorem Vals.inj:∀ {xs ys:List V} {us:List Value},Vals xs us→Vals ys us→xs=ys
 | _,_,_,.nil,.nil=>rfl
 | _,_,_,.cons r t,.cons r' t'=>by rw [r.inj r',Vals.inj t t']
section
variable {X:Cx} {pins:List (Addr×Obj)} {σ:St} {H:Hp} {s:Shared} {a:Addr} {xs ys:List V}
theorem SqL.of {K:PySem.W.Frag} (h:H a=some (.lst xs)):SqL K H a xs:=.inl (.inl h)
theorem SqT.of {K:PySem.W.Frag} (h:H a=some (.tup xs)):SqT K H a xs:=.inl (.inl h)
theorem Inv.list (I:Inv X pins σ H s) (h:SqL X.K H a xs):∃ its:List Value,Vals xs its∧PlainL s.heap a its.toArray∧xs.length≤sizeLine:=by
 rcases h with h | ⟨o,its,n,hk,hc,hd,hs,hz,r⟩
 ·obtain ⟨z,its,n,r,e⟩:=h.ok I.hok
  exact ⟨its,r,⟨_,n,e,rfl,rfl,rfl⟩,z⟩
 ·refine ⟨its.toList,r,⟨o,n,I.kIn a o hk,hc,hd,by simpa using hs⟩,?_⟩
  have e:=r.length
  simp only [Array.length_toList] at e
  omega
theorem Inv.tuple (I:Inv X pins σ H s) (h:SqT X.K H a xs):∃ its:List Value,Vals xs its∧IsTup s.heap a its.toArray∧xs.length≤sizeLine:=by
 rcases h with h | ⟨o,its,n,hk,hc,hs,hz,r⟩
 ·obtain ⟨z,its,r,p⟩:=h.ok I.hok
  exact ⟨its,r,p,z⟩
 ·refine ⟨its.toList,r,⟨o,I.kIn a o hk,hc,n,by simpa using hs⟩,?_⟩
  have e:=r.length
  simp only [Array.length_toList] at e
  omega
theorem Inv.list_inj (I:Inv X pins σ H s) (h:SqL X.K H a xs) (h':SqL X.K H a ys):xs=ys:=by
 obtain ⟨its,r,⟨o,n,e,_,_,d⟩,_⟩:=I.list h
 obtain ⟨its',r',⟨o',n',e',_,_,d'⟩,_⟩:=I.list h'
 rw [e] at e'; cases e'
 rw [d] at d'
 injection d' with d1 _
 have:its=its':=by simpa using congrArg Array.toList d1
 subst this
 exact r.inj r'
theorem Inv.tuple_inj (I:Inv X pins σ H s) (h:SqT X.K H a xs) (h':SqT X.K H a ys):xs=ys:=by
 obtain ⟨its,r,⟨o,e,_,n,d⟩,_⟩:=I.tuple h
 obtain ⟨its',r',⟨o',e',_,n',d'⟩,_⟩:=I.tuple h'
 rw [e] at e'; cases e'
 rw [d] at d'
 injection d' with d1 _
 have:its=its':=by simpa using congrArg Array.toList d1
 subst this
 exact r.inj r'
end
noncomputable abbrev Cx.wish (X:Cx) (E:Value→Shared→Prop):Cx:={ X with xe:=E }
noncomputable abbrev Cx.nox (X:Cx):Cx:=X.wish fun _ _=>False
theorem Cx.Ok.wish {X:Cx} (ok:X.Ok) (E:Value→Shared→Prop):(X.wish E).Ok :=
 ⟨ok.mod,ok.kind,ok.glob,ok.blt,ok.above,ok.inj,ok.has,ok.cab,ok.hd,ok.frames,ok.stk,ok.exf,ok.bs,ok.bsz,ok.noex,ok.exfs,ok.funs,ok.frf⟩
theorem Cx.Ok.unwish {X:Cx} {E:Value→Shared→Prop} (ok:(X.wish E).Ok):X.Ok :=
 ⟨ok.mod,ok.kind,ok.glob,ok.blt,ok.above,ok.inj,ok.has,ok.cab,ok.hd,ok.frames,ok.stk,ok.exf,ok.bs,ok.bsz,ok.noex,ok.exfs,ok.funs,ok.frf⟩
section
variable {X:Cx} {pins:List (Addr×Obj)} {σ:St} {H:Hp} {s:Shared} {E:Value→Shared→Prop}
theorem Inv.wish (I:Inv X pins σ H s) (E:Value→Shared→Prop):Inv (X.wish E) pins σ H s:=⟨I.ok.wish E,I.os,I.bare,I.base,I.loc,I.cell,I.free,I.freeC,I.pin,I.hok,I.len⟩
theorem Inv.unwish (I:Inv (X.wish E) pins σ H s):Inv X pins σ H s:=⟨I.ok.unwish,I.os,I.bare,I.base,I.loc,I.cell,I.free,I.freeC,I.pin,I.hok,I.len⟩
theorem SP.unwish {D:Ends} {f:Flow} {s':Shared} (h:SP (X.wish E) pins D f s'):SP X pins D f s':=by
 cases f with
 | next=>obtain ⟨σ',H',I,q⟩:=h; exact ⟨σ',H',I.unwish,q⟩
 | brk=>obtain ⟨σ',H',I,q⟩:=h; exact ⟨σ',H',I.unwish,q⟩
 | cont=>obtain ⟨σ',H',I,q⟩:=h; exact ⟨σ',H',I.unwish,q⟩
 | ret u=>obtain ⟨v,σ',H',I,r,q⟩:=h; exact ⟨v,σ',H',I.unwish,r,q⟩
theorem PSs.nox {st:List Stmt} {t:TS} (h:PSs X.nox st t):PSs X st t:=fun pins s σ H D I hw =>
 wpAny_mono (h pins s σ H D (I.wish _) hw) (fun _ _ q=>q.unwish) fun _ _ z=>False.elim z
end
section
variable {X:Cx} {st:Stmt} {rest:List Stmt} {t u:TS} {e:Expr} {te:TE} {pos:Pos}
def tNext:TS:=fun D σ H=>D.nx σ H
def tSeq (t u:TS):TS:=fun D σ H=>t { D with nx:=u D } σ H
theorem pss_nil:PSs X [] tNext:=fun _ _ σ H _ I h=>wpAny_execs_nil ⟨σ,H,I,h⟩
theorem pss_cons (h1:PS X st t) (h2:PSs X rest u):PSs X (st::rest) (tSeq t u):=by
 intro pins s σ H D I h
 refine wpAny_execs_cons (thn (h1 pins s σ H { D with nx:=u D } I h) fun f s1 q=>?_)
 cases f with
 | next =>
  obtain ⟨σ',H',I',q⟩:=q
  exact h2 pins s1 σ' H' D I' q
 | ret v=>exact q
 | brk=>exact q
 | cont=>exact q
theorem pss_one (h1:PS X st t):PSs X [st] t:=by
 intro pins s σ H D I h
 refine wpAny_execs_cons (thn (h1 pins s σ H D I h) fun f s1 q=>?_)
 cases f with
 | next=>exact wpAny_execs_nil q
 | ret v=>exact q
 | brk=>exact q
 | cont=>exact q
def tBreak:TS:=fun D σ H=>D.bk σ H
theorem ps_break:PS X (.Break pos) tBreak:=fun _ _ σ H _ I h=>wpAny_Break ⟨σ,H,I,h⟩
theorem Inv.quiet {pins:List (Addr×Obj)} {σ:St} {H:Hp} {s:Shared} (I:Inv X pins σ H s):interactive X.env=false:=by simp [interactive,I.ok.kind]
def tDrop (te:TE):TS:=fun D σ H=>te σ H fun _ H1=>D.nx σ H1
theorem ps_expr (he:PE X e te) (hs:swapsWith e none pos.line X.env=pure false:=by rfl):PS X (.Expr e pos) (tDrop te):=by
 intro pins s σ H D I h
 exact wpAny_Expr_any (thn (he pins s σ H _ I h) fun v s1 ⟨x,H1,I1,r1,q1⟩=>⟨σ,H1,I1,q1⟩) I.quiet hs
def tRet (te:TE):TS:=fun D σ H=>te σ H D.rt
theorem ps_ret (he:PE X e te):PS X (.Return (some e) pos) (tRet te):=by
 intro pins s σ H D I h
 exact wpAny_Return_some (thn (he pins s σ H _ I h) fun v s1 ⟨x,H1,I1,r1,q1⟩=>⟨x,σ,H1,I1,r1,q1⟩)
def tRetN:TS:=fun D _ H=>D.rt .non H
def tIfS (c:TT) (t u:TS):TS:=fun D σ H=>c σ H fun b H1=>if b=true then t D σ H1 else u D σ H1
theorem ps_if {c:Expr} {a b:List Stmt} {tc:TT} (hc:PT X c tc) (ha:PSs X a t) (hb:PSs X b u):PS X (.If c a b pos) (tIfS tc t u):=by
 intro pins s σ H D I h
 refine wpAny_If (thn (hc pins s σ H _ I h) fun d s1 ⟨H1,I1,q1⟩=>?_)
 cases d with
 | true=>exact ha pins s1 σ H1 D I1 q1
 | false=>exact hb pins s1 σ H1 D I1 q1
end
abbrev TG:=V→St→Hp→(St→Hp→Prop)→Prop
abbrev TGs:=List V→St→Hp→(St→Hp→Prop)→Prop
def PG (X:Cx) (target:Expr) (t:TG):Prop :=
 ∀ (pins:List (Addr×Obj)) (s:Shared) (σ:St) (H:Hp) (v:V) (u:Value) (Q:St→Hp→Prop),Inv X pins σ H s→RelV v u→t v σ H Q →
  wpAny (model X.prog X.w) X.A (assign target X.env u) (fun _ s'=>∃ σ' H',Inv X pins σ' H' s'∧Q σ' H') X.xe s
def PGs (X:Cx) (ts:List Expr) (t:TGs):Prop :=
 ∀ (pins:List (Addr×Obj)) (s:Shared) (σ:St) (H:Hp) (vs:List V) (us:List Value) (Q:St→Hp→Prop),Inv X pins σ H s→Vals vs us→t vs σ H Q →
  wpAny (model X.prog X.w) X.A (assignInOrder ((assignEach ts X.env).map (·.2)) us) (fun _ s'=>∃ σ' H',Inv X pins σ' H' s'∧Q σ' H') X.xe s
abbrev TSet:=V→V→V→Hp→(Hp→Prop)→Prop
def PSet (X:Cx) (t:TSet):Prop :=
 ∀ (pins:List (Addr×Obj)) (s:Shared) (σ:St) (H:Hp) (o i v:V) (ov iv u:Value) (Q:Hp→Prop),Inv X pins σ H s→RelV o ov→RelV i iv→RelV v u→t o i v H Q →
  wpAny (model X.prog X.w) X.A (setItem ov iv u) (fun _ s'=>∃ H',Inv X pins σ H' s'∧Q H') X.xe s
abbrev TIp:=V→V→Hp→VK→Prop
section
variable {X:Cx} {pos:Pos}
def gName (i:Nat):TG:=fun v σ H Q=>Q (σ.set i (some v)) H
theorem pg_name {i:Nat} {x:Str} (hN:X.N.Nodup) (hi:X.N[i]?=some x) (hx:Loc X.env.scope x) (hf:X.fn x=true∨X.env.scope.names.lookup x=some .local:=by first | exact .inl rfl | exact .inr rfl | assumption):PG X (.Name x pos) (gName i):=by
 intro pins s σ H v u Q I r h
 exact wpAny_assign_Name (store_ok I hN hi hx r (fun s' I'=>⟨_,H,I',h⟩) hf)
def gNil:TGs:=fun vs σ H Q=>vs=[]∧Q σ H
def gCons (t:TG) (u:TGs):TGs:=fun vs σ H Q=>∃ v r,vs=v::r∧t v σ H fun σ' H'=>u r σ' H' Q
theorem pgs_nil:PGs X [] gNil:=by
 intro pins s σ H vs us Q I r h
 obtain ⟨e,h⟩:=h
 subst e
 cases r
 exact assignInOrder_nil ⟨σ,H,I,h⟩
theorem pgs_cons {e:Expr} {es:List Expr} {t:TG} {u:TGs} (h1:PG X e t) (h2:PGs X es u)
  (hs:(assignEach (e::es) X.env).map (·.2)=assign e X.env::(assignEach es X.env).map (·.2):=by rfl):PGs X (e::es) (gCons t u):=by
 intro pins s σ H vs us Q I r h
 obtain ⟨v,vr,e1,h⟩:=h
 subst e1
 cases r with
 | cons r rr =>
  rw [hs]
  refine assignInOrder_cons (thn (h1 pins s σ H _ _ _ I r h) fun _ s1 ⟨σ1,H1,I1,q1⟩=>?_)
  exact h2 pins s1 σ1 H1 _ _ Q I1 rr q1
def gTup (K:PySem.W.Frag) (n:Nat) (t:TGs):TG:=fun v σ H Q=>∃ a xs,v=.ref a∧SqT K H a xs∧xs.length=n∧t xs σ H Q
theorem pg_tup {es:List Expr} {k:Nat} {t:TGs} {n:Nat} (hc:X.calm=true) (h:PGs X es t)
  (hn:(assignEach es X.env).length=n:=by rfl) (hst:(assignEach es X.env).findIdx? (·.1)=none:=by rfl):PG X (.Tuple es k pos) (gTup X.K n t):=by
 intro pins s σ H v u Q I r hw
 obtain ⟨a,xs,e1,hq,hl,hw⟩:=hw
 subst e1
 cases r
 obtain ⟨its,rv,ht,hz⟩:=I.tuple hq
 refine assign_Tuple_tuple (I.ok.hd hc) ht (by simp [hn,← hl,rv.length]) hst fun h' hx=>?_
 have I1:Inv X pins σ H { s with heap:=h' }:=I.kept (t':=s.toks) fun b o e=>hx b o (Nat.ne_of_lt (Heap.lt_size e)) e
 exact h pins _ σ H xs _ Q I1 (by simpa using rv) hw
def gSub (to ti:TE) (t:TSet):TG:=fun v σ H Q=>to σ H fun o H1=>ti σ H1 fun i H2=>t o i v H2 fun H3=>Q σ H3
theorem pg_sub {o i:Expr} {to ti:TE} {t:TSet} (ho:PE X o to) (hi:PE X i ti) (hs:PSet X t)
  (ha:∀ v,assign (.Subscript o i pos) X.env v=(do
   let ov ← holding [v] (eval o X.env)
   let iv ← holding [v,ov] (eval i X.env)
   standAt pos
   holding [v,ov,iv] (setItem ov iv v)
   release [v,ov,iv] []):=by intro _; rfl):PG X (.Subscript o i pos) (gSub to ti t):=by
 intro pins s σ H v u Q I r h
 rw [ha]
 refine wpAny_bind (wpAny_holding (thn (ho pins s σ H _ I h) fun ov s1 ⟨x,H1,I1,r1,q1⟩=>?_))
 refine wpAny_bind (wpAny_holding (thn (hi pins s1 σ H1 _ I1 q1) fun iv s2 ⟨y,H2,I2,r2,q2⟩=>?_))
 refine wpAny_bind (wpAny_standAt (wpAny_bind (wpAny_holding (thn (hs pins s2 σ H2 x y v ov iv u _ I2 r1 r2 r q2) fun _ s3 ⟨H3,I3,q3⟩=>?_))))
 exact wpAny_release ⟨σ,H3,I3,q3⟩
def tAsg (te:TE) (g:TG):TS:=fun D σ H=>te σ H fun x H1=>g x σ H1 D.nx
theorem ps_asg {tg e:Expr} {te:TE} {g:TG} (he:PE X e te) (hg:PG X tg g) (hs:swapsWithSole [tg] e pos.line X.env=pure false:=by rfl) (hw:swappedStores [tg] e X.env=pure none:=by rfl)
  (h1:(assignEach [tg] X.env).map (·.2)=[assign tg X.env]:=by rfl):PS X (.Assign [tg] e pos) (tAsg te g):=by
 intro pins s σ H D I h
 refine wpAny_Assign_stores (thn (he pins s σ H _ I h) fun v s1 ⟨x,H1,I1,r1,q1⟩=>?_) hs hw
 rw [h1]
 exact thn (hg pins s1 σ H1 x v _ I1 r1 q1) fun _ s2 q=>q
theorem ps_set {i:Nat} {x:Str} {e:Expr} {te:TE} {pos':Pos} (hN:X.N.Nodup) (hi:X.N[i]?=some x) (hx:Loc X.env.scope x) (he:PE X e te) (hs:swapsWith e (some (.Name x pos')) pos.line X.env=pure false:=by rfl) (hf:X.fn x=true∨X.env.scope.names.lookup x=some .local:=by first | exact .inl rfl | exact .inr rfl | assumption) :
  PS X (.Assign [.Name x pos'] e pos) (tAsg te (gName i)):=by
 intro pins s σ H D I h
 refine wpAny_Assign_Name (thn (he pins s σ H _ I h) fun v s1 ⟨y,H1,I1,r1,q1⟩=>?_) hs
 exact store_ok I1 hN hi hx r1 (fun s2 I2=>⟨_,H1,I2,q1⟩) hf
def ipI (f:Int→Int→Int):TIp:=fun x y H Q=>∃ i j,x=.int i∧y=.int j∧Q (.int (f i j)) H
def tWhile (c:TT) (tb:TS):TS:=fun D σ H=>∃ W:Nat→St→Hp→Prop,(∃ m,W m σ H)∧∀ m σ H,W m σ H →
 c σ H fun b H1=>if b=true then ∃ N:St→Hp→Prop,(∀ σ' H',N σ' H'→∃ m',m' < m∧W m' σ' H')∧tb { D with nx:=N,ct:=N,bk:=D.nx } σ H1 else D.nx σ H1
theorem ps_while {c:Expr} {body:List Stmt} {tc:TT} {tb:TS} (hp:PassesOwn (model X.prog X.w) X.A X.env X.xe) (hc:PT X c tc) (hb:PSs X body tb):PS X (.While c body [] pos) (tWhile tc tb):=by
 intro pins s σ H D I h
 obtain ⟨W,⟨m0,w0⟩,turn⟩:=h
 refine wpAny_While (codeAny_whileLoop (fun n s'=>∃ σ' H',Inv X pins σ' H' s'∧W n σ' H') ?_ m0 ⟨σ,H,I,w0⟩)
 rintro n s1 ⟨σ1,H1,I1,w1⟩
 refine wpAny_passesOwn hp (thn (hc pins s1 σ1 H1 _ I1 (turn n σ1 H1 w1)) fun b s2 ⟨H2,I2,q2⟩=>?_)
 cases b with
 | true =>
  obtain ⟨N,hN,q2⟩:=q2
  rw [if_pos rfl]
  refine wpAny_passesOwn hp (thn (hb pins s2 σ1 H2 _ I2 q2) fun f s3 q3=>?_)
  cases f with
  | next =>
   obtain ⟨σ3,H3,I3,n3⟩:=q3
   obtain ⟨m',hm,w3⟩:=hN σ3 H3 n3
   exact ⟨m',hm,σ3,H3,I3,w3⟩
  | cont =>
   obtain ⟨σ3,H3,I3,n3⟩:=q3
   obtain ⟨m',hm,w3⟩:=hN σ3 H3 n3
   exact ⟨m',hm,σ3,H3,I3,w3⟩
  | brk=>exact q3
  | ret v=>exact q3
 | false =>
  rw [if_neg Bool.false_ne_true]
  exact wpAny_execs_nil ⟨σ1,H2,I2,q2⟩
end
structure It where
 go:Nat→Hp→Prop
 yld:Nat→Hp→V→Hp→Prop
 stop:Nat→Hp→Prop
def FpOk (X:Cx) (pins:List (Addr×Obj)) (H:Hp) (b:Addr):Prop :=
 H b=none∧b≠X.env.locals∧b ∉ X.fs∧(b∈X.ex∨X.s₀.heap.objs.size≤b)∧(∀ x c,X.env.cells.lookup x=some c→c≠b)∧∀ p∈X.pn++pins,p.1≠b
theorem Inv.fpOk {X:Cx} {pins:List (Addr×Obj)} {σ:St} {H H':Hp} {s:Shared} {b:Addr} (I:Inv X pins σ H s) (hb:s.heap.objs.size≤b) (hn:H' b=none):FpOk X pins H' b:=by
 refine ⟨hn,Nat.ne_of_gt (Nat.lt_of_lt_of_le I.lt hb),I.nofs hb,.inr (Nat.le_trans I.sz hb),fun x c e z=>?_,fun p hp z=>?_⟩
 ·obtain ⟨v,q⟩:=I.cell x c e
  exact absurd (Nat.lt_of_lt_of_le q.lt (by rw [z]; exact hb)) (Nat.lt_irrefl _)
 ·exact absurd (Nat.lt_of_lt_of_le (Heap.lt_size (I.pin p hp).1) (by rw [z]; exact hb)) (Nat.lt_irrefl _)
structure Turn (P:Program) (w:World) (K:PySem.W.Frag) (tg:Expr) (J:It) (fp:List Addr) (it:Addr) (tn:Nat→Heap→Prop):Prop where
 mem:it∈fp
 obj:∀ i h,tn i h→∀ b∈fp,∃ o,h.get? b=some o∧∀ v,o.data≠.cell v
 keep:∀ i h h',tn i h→(∀ b∈fp,∀ o,h.get? b=some o→h'.get? b=some o)→tn i h'
 item:∀ (X:Cx),X.prog=P→X.w=w→X.K=K→X.calm=true→∀ (i:Nat) (pins:List (Addr×Obj)) (s:Shared) (σ:St) (H:Hp) (E:Value→Shared→Prop),Inv X pins σ H s→(∀ b∈fp,FpOk X pins H b)→tn i s.heap→J.go i H →
  wpAny (model P w) X.A (pyNext (.ref it)) (fun r s1=>∃ u,r=some u ∧
   wpAny (model P w) X.A (letOwnedTupleGo tg (.ref it) u) (fun _ s2=>∃ x H',Inv X pins σ H' s2∧RelV x u∧J.yld i H x H'∧tn (i+1) s2.heap∧∀ b∈fp,H' b=none) E s1) E s
 done:∀ (X:Cx),X.prog=P→X.w=w→X.K=K→X.calm=true→∀ (i:Nat) (pins:List (Addr×Obj)) (s:Shared) (σ:St) (H:Hp) (E:Value→Shared→Prop),Inv X pins σ H s→(∀ b∈fp,FpOk X pins H b)→tn i s.heap→J.stop i H →
  wpAny (model P w) X.A (pyNext (.ref it)) (fun r s1=>r=none∧Inv X pins σ H s1) E s
 self:∀ (A:Around) (i:Nat) (s:Shared) (Q:Value→Shared→Prop) (E:Value→Shared→Prop),tn i s.heap→Q (.ref it) s→wpAny (model P w) A (pyIter (.ref it)) Q E s
abbrev TI:=St→Hp→(It→Hp→Prop)→Prop
def PIE (X:Cx) (pins:List (Addr×Obj)) (σ:St) (tg:Expr) (R:It→Hp→Prop) (itv:Value) (s2:Shared):Prop :=
 ∃ (it:Addr) (fp:List Addr) (tn:Nat→Heap→Prop) (J:It) (H':Hp),itv=.ref it∧Inv X pins σ H' s2∧Turn X.prog X.w X.K tg J fp it tn∧tn 0 s2.heap∧(∀ b∈fp,FpOk X pins H' b)∧R J H'
def PI (X:Cx) (tg iter:Expr) (wi:TI):Prop :=
 ∀ (pins:List (Addr×Obj)) (s:Shared) (σ:St) (H:Hp) (R:It→Hp→Prop),Inv X pins σ H s→wi σ H R →
  wpAny (model X.prog X.w) X.A (eval iter X.env) (fun v s1=>wpAny (model X.prog X.w) X.A (pyIter v) (PIE X pins σ tg R) X.xe s1) X.xe s
theorem go_of {M:Model} {A:Around} {E:Value→Shared→Prop} {s:Shared} {tg:Expr} {it:Addr} {u:Value} {o:Obj} {n:String} {vs:Array Value} {Q:Unit→Shared→Prop} (ho:s.heap.get? it=some o) (hc:o.cls=.type n) (hd:o.data=.fields vs)
  (hn:["enumerate", "zip", "dict_itemiterator", "dict_reverseitemiterator", "odict_iterator", "itertools.zip_longest", "itertools.pairwise"].contains n=false) (hQ:Q () s):wpAny M A (letOwnedTupleGo tg (.ref it) u) Q E s:=by
 unfold letOwnedTupleGo
 cases tg <;> first
  | exact wpAny_pure hQ
  | (cases u <;> first
    | exact wpAny_pure hQ
    | (refine wpAny_bind (wpAny_load ho ?_)
       rw [hc,hd]
       show wpAny M A (if (["enumerate", "zip", "dict_itemiterator", "dict_reverseitemiterator", "odict_iterator", "itertools.zip_longest", "itertools.pairwise"].contains n && vs[0]? == some (rawInt _))=true then _ else _) Q E s
       rw [if_neg (by intro h; rw [hn,Bool.false_and] at h; cases h)]
       exact wpAny_pure hQ))
noncomputable def Itl (K:PySem.W.Frag) (a:Addr):It :=
 ⟨fun i H=>∃ xs x,SqL K H a xs∧xs[i]?=some x,fun i H x H'=>H'=H∧∀ xs,SqL K H a xs→xs[i]?=some x,fun i H=>∃ xs,SqL K H a xs∧xs.length≤i⟩
noncomputable def Itt (K:PySem.W.Frag) (a:Addr):It :=
 ⟨fun i H=>∃ xs x,SqT K H a xs∧xs[i]?=some x,fun i H x H'=>H'=H∧∀ xs,SqT K H a xs→xs[i]?=some x,fun i H=>∃ xs,SqT K H a xs∧xs.length≤i⟩
noncomputable def Itr (lo:Int) (n:Nat):It:=⟨fun i _=>i < n,fun i H x H'=>H'=H∧x=.int (lo+i),fun i _=>n≤i⟩
theorem turn_list {P:Program} {w:World} {K:PySem.W.Frag} {tg:Expr} (a it:Addr):Turn P w K tg (Itl K a) [it] it (fun i h=>h.IsListIter it a i) where
 mem:=by simp
 obj:=fun i h st b hb=>by
  have e:b=it:=by simpa using hb
  subst e
  obtain ⟨o,e,c,d⟩:=st
  exact ⟨o,e,fun v z=>by rw [d] at z; cases z⟩
 keep:=fun i h h' st k=>st.at fun o e=>k it (by simp) o e
 item:=by
  intro X hP hw hK hc i pins s σ H E I hf st hg
  subst hP hw hK
  obtain ⟨xs,x,hq,hx⟩:=hg
  obtain ⟨its,rv,p,hz⟩:=I.list hq
  obtain ⟨u,hu,ru⟩:=rv.get hx
  obtain ⟨f0,f1,f2,f3,f4,f5⟩:=hf it (by simp)
  refine wpAny_pyNext_list_item st p.isList (x:=u) (by simpa using hu) fun h' st' sb=>?_
  have I1:Inv X pins σ H { s with heap:=h' }:=I.turned (t':=s.toks) (fun b o hb e=>(sb.2 b hb).trans e) f0 f1 f3 f4 f5
  obtain ⟨o,e,c,d⟩:=id st'
  exact ⟨u,rfl,go_of (s:={ s with heap:=h' }) e c d (by decide) ⟨x,H,I1,ru,⟨rfl,fun ys hy=>by rw [I.list_inj hy hq]; exact hx⟩,st',fun b hb=>(hf b hb).1⟩⟩
 done:=by
  intro X hP hw hK hc i pins s σ H E I hf st hg
  subst hP hw hK
  obtain ⟨xs,hq,hx⟩:=hg
  obtain ⟨its,rv,p,hz⟩:=I.list hq
  obtain ⟨f0,f1,f2,f3,f4,f5⟩:=hf it (by simp)
  have hl:=rv.length
  exact wpAny_pyNext_list_end (I.ok.hd hc) st p.isList (by simp; omega) fun h' eb=>⟨rfl,I.turned (t':=s.toks) (fun b o hb e=>eb b o hb e) f0 f1 f3 f4 f5⟩
 self:=fun _ _ _ _ _ st h=>wpAny_pyIter_listiter st h
theorem turn_tuple {P:Program} {w:World} {K:PySem.W.Frag} {tg:Expr} (a it:Addr):Turn P w K tg (Itt K a) [it] it (fun i h=>h.IsTupleIter it a i) where
 mem:=by simp
 obj:=fun i h st b hb=>by
  have e:b=it:=by simpa using hb
  subst e
  obtain ⟨o,e,c,d⟩:=st
  exact ⟨o,e,fun v z=>by rw [d] at z; cases z⟩
 keep:=fun i h h' st k=>st.at fun o e=>k it (by simp) o e
 item:=by
  intro X hP hw hK hc i pins s σ H E I hf st hg
  subst hP hw hK
  obtain ⟨xs,x,hq,hx⟩:=hg
  obtain ⟨its,rv,p,hz⟩:=I.tuple hq
  obtain ⟨u,hu,ru⟩:=rv.get hx
  obtain ⟨f0,f1,f2,f3,f4,f5⟩:=hf it (by simp)
  refine wpAny_pyNext_tuple_item st (show s.heap.IsTuple a its.toArray from p) (x:=u) (by simpa using hu) fun h' st' sb=>?_
  have I1:Inv X pins σ H { s with heap:=h' }:=I.turned (t':=s.toks) (fun b o hb e=>(sb.2 b hb).trans e) f0 f1 f3 f4 f5
  obtain ⟨o,e,c,d⟩:=id st'
  exact ⟨u,rfl,go_of (s:={ s with heap:=h' }) e c d (by decide) ⟨x,H,I1,ru,⟨rfl,fun ys hy=>by rw [I.tuple_inj hy hq]; exact hx⟩,st',fun b hb=>(hf b hb).1⟩⟩
 done:=by
  intro X hP hw hK hc i pins s σ H E I hf st hg
  subst hP hw hK
  obtain ⟨xs,hq,hx⟩:=hg
  obtain ⟨its,rv,p,hz⟩:=I.tuple hq
  obtain ⟨f0,f1,f2,f3,f4,f5⟩:=hf it (by simp)
  have hl:=rv.length
  exact wpAny_pyNext_tuple_end (I.ok.hd hc) st (show s.heap.IsTuple a its.toArray from p) (by simp; omega) fun h' eb=>⟨rfl,I.turned (t':=s.toks) (fun b o hb e=>eb b o hb e) f0 f1 f3 f4 f5⟩
 self:=fun _ _ _ _ _ st h=>wpAny_pyIter_tupleiter st h
theorem turn_range {P:Program} {w:World} {K:PySem.W.Frag} {tg:Expr} (it:Addr) (lo:Int) (n:Nat):Turn P w K tg (Itr lo n) [it] it (fun i h=>IsRangeIter h it (lo+(i:Nat)*1) ((n:Int) - (i:Nat)) 1) where
 mem:=by simp
 obj:=fun i h st b hb=>by
  have e:b=it:=by simpa using hb
  subst e
  exact ⟨_,st,fun v z=>by
   have z':Data.fields _=Data.cell v:=z
   cases z'⟩
 keep:=fun i h h' st k=>k it (by simp) _ st
 item:=by
  intro X hP hw hK hc i pins s σ H E I hf st hg
  subst hP hw hK
  obtain ⟨f0,f1,f2,f3,f4,f5⟩:=hf it (by simp)
  have W:=Walks.range (prog:=X.prog) (w:=X.w) (I.ok.hd hc) it lo 1 n
  refine W.item i s _ _ hg st fun v h' tk hv st' kk=>?_
  obtain ⟨t,rfl⟩:=hv
  have I1:Inv X pins σ H { s with heap:=h',toks:=tk }:=I.turned (fun b o hb e=>kk b o (by simpa using hb) e) f0 f1 f3 f4 f5
  refine ⟨_,rfl,go_of (s:={ s with heap:=h',toks:=tk }) (n := "range_iterator") st' rfl rfl (by decide) ⟨.int (lo+i),H,I1,⟨t,?_⟩,⟨rfl,rfl⟩,st',fun b hb=>(hf b hb).1⟩⟩
  rw [Int.mul_one]
 done:=by
  intro X hP hw hK hc i pins s σ H E I hf st hg
  subst hP hw hK
  obtain ⟨f0,f1,f2,f3,f4,f5⟩:=hf it (by simp)
  exact wpAny_pyNext_range_end (I.ok.hd hc) st (by have:n≤i:=hg; omega) fun h' eb=>⟨rfl,I.turned (t':=s.toks) (fun b o hb e=>eb b o hb e) f0 f1 f3 f4 f5⟩
 self:=fun _ _ _ _ _ st h=>wpAny_pyIter_rangeiter st h
section
variable {X:Cx} {tg:Expr}
def iList (K:PySem.W.Frag) (tl:TE):TI:=fun σ H R=>tl σ H fun x H1=>∃ a,x=.ref a∧(∃ xs,SqL K H1 a xs)∧R (Itl K a) H1
def iTup (K:PySem.W.Frag) (tl:TE):TI:=fun σ H R=>tl σ H fun x H1=>∃ a,x=.ref a∧(∃ xs,SqT K H1 a xs)∧R (Itt K a) H1
theorem pi_list {l:Expr} {tl:TE} (hl:PE X l tl):PI X tg l (iList X.K tl):=by
 intro pins s σ H R I h
 refine thn (hl pins s σ H _ I h) fun v s1 ⟨x,H1,I1,r1,q1⟩=>?_
 obtain ⟨a,e,⟨xs,hq⟩,q⟩:=q1
 subst e
 cases r1
 obtain ⟨its,rv,p,hz⟩:=I1.list hq
 refine wpAny_pyIter_list p.isList ?_
 refine ⟨s1.heap.objs.size,[s1.heap.objs.size],_,_,H1,rfl,I1.kept (t':=s1.toks) fun b o e=>Heap.get?_push_of_some _ e,turn_list a _,⟨_,Heap.get?_push_size _ rfl,rfl,rfl⟩,fun b hb=>?_,q⟩
 have e:b=s1.heap.objs.size:=by simpa using hb
 subst e
 exact I1.fpOk (Nat.le_refl _) (I1.hok.fresh (Nat.le_refl _))
theorem pi_tup {l:Expr} {tl:TE} (hl:PE X l tl):PI X tg l (iTup X.K tl):=by
 intro pins s σ H R I h
 refine thn (hl pins s σ H _ I h) fun v s1 ⟨x,H1,I1,r1,q1⟩=>?_
 obtain ⟨a,e,⟨xs,hq⟩,q⟩:=q1
 subst e
 cases r1
 obtain ⟨its,rv,p,hz⟩:=I1.tuple hq
 refine wpAny_pyIter_tuple (show s1.heap.IsTuple a its.toArray from p) ?_
 refine ⟨s1.heap.objs.size,[s1.heap.objs.size],_,_,H1,rfl,I1.kept (t':=s1.toks) fun b o e=>Heap.get?_push_of_some _ e,turn_tuple a _,⟨_,Heap.get?_push_size _ rfl,rfl,rfl⟩,fun b hb=>?_,q⟩
 have e:b=s1.heap.objs.size:=by simpa using hb
 subst e
 exact I1.fpOk (Nat.le_refl _) (I1.hok.fresh (Nat.le_refl _))
theorem range_it {pins:List (Addr×Obj)} {σ:St} {H:Hp} {s:Shared} {R:It→Hp→Prop} {E:Value→Shared→Prop} {lo hi:Int} {t u v:Tok} {tk:Nat} (I:Inv X pins σ H s) (h1 : -(2 ^ 62)≤lo) (h2:lo < 2 ^ 62) (h3 : -(2 ^ 62)≤hi) (h4:hi < 2 ^ 62)
  (q:R (Itr lo (hi - lo).toNat) H):wpAny (model X.prog X.w) X.A (pyIter (.ref s.heap.objs.size)) (PIE X pins σ tg R) E { s with heap:=s.heap.push { cls:=.type "range",data:=.fields #[.int lo t,.int hi u,.int 1 v] },toks:=tk }:=by
 refine wpAny_pyIter_range (IsRange.new ..) (small_one h1 h2 h3 h4) ?_
 have I1:Inv X pins σ H { s with heap:=s.heap.push { cls:=.type "range",data:=.fields #[.int lo t,.int hi u,.int 1 v] },toks:=tk }:=I.kept fun b o e=>Heap.get?_push_of_some _ e
 refine ⟨(s.heap.push { cls:=.type "range",data:=.fields #[.int lo t,.int hi u,.int 1 v] }).objs.size,[(s.heap.push { cls:=.type "range",data:=.fields #[.int lo t,.int hi u,.int 1 v] }).objs.size],_,_,H,rfl,
  I1.kept (t':=tk) fun b o e=>Heap.get?_push_of_some _ e,turn_range _ lo (hi - lo).toNat,?_,fun b hb=>?_,q⟩
 ·have e1:lo+((0:Nat):Int)*1=lo:=by simp
  have e2:(((hi - lo).toNat:Nat):Int) - ((0:Nat):Int)=Builtin.Range.rangeSize lo hi 1:=by rw [rangeSize_one]; split <;> omega
  show IsRangeIter _ _ (lo+((0:Nat):Int)*1) ((((hi - lo).toNat:Nat):Int) - ((0:Nat):Int)) 1
  rw [e1,e2]
  exact Heap.get?_push_size _ rfl
 ·have e:b=(s.heap.push { cls:=.type "range",data:=.fields #[.int lo t,.int hi u,.int 1 v] }).objs.size:=by simpa using hb
  subst e
  exact I1.fpOk (Nat.le_refl _) (I1.hok.fresh (Nat.le_refl _))
def iRng1 (ta:TA):TI:=fun σ H R=>ta σ H fun vs H1=>∃ j:Int,vs=[.int j] ∧ -(2 ^ 62)≤j∧j < 2 ^ 62∧R (Itr 0 j.toNat) H1
def iRng2 (ta:TA):TI:=fun σ H R=>ta σ H fun vs H1=>∃ i j:Int,vs=[.int i,.int j]∧(-(2 ^ 62)≤i∧i < 2 ^ 62 ∧ -(2 ^ 62)≤j∧j < 2 ^ 62)∧R (Itr i (j - i).toNat) H1
theorem pi_range1 {a:Expr} {ta:TA} {p pos:Pos} (hg:Gl X "range") (hm:X.mg "range" = none) (ha:PA X [a] ta) (hs:starEach [a] X.env=[(false,eval a X.env)]:=by rfl):PI X tg (.Call (.Name "range" p) [a] [] pos) (iRng1 ta):=by
 intro pins s σ H R I h
 refine Call_ (ld_blt I hg hm boot_range (PyProof.Rows.callWith_type1 (thn (ha pos pins s σ H _ I h) fun us s1 ⟨vs,H1,I1,r1,q1⟩=>?_) hs rfl))
 obtain ⟨j,e,q1,q2,q⟩:=q1
 subst e
 cases r1 with
 | cons r rr =>
  cases rr
  obtain ⟨t,rfl⟩:=r
  exact call_range_1 (range_it I1 (by omega) (by omega) q1 q2 (by simpa using q))
theorem pi_range2 {a b:Expr} {ta:TA} {p pos:Pos} (hg:Gl X "range") (hm:X.mg "range" = none) (ha:PA X [a,b] ta) (hs:starEach [a,b] X.env=[(false,eval a X.env),(false,eval b X.env)]:=by rfl) (hs2:starEach [b] X.env=[(false,eval b X.env)]:=by rfl) :
  PI X tg (.Call (.Name "range" p) [a,b] [] pos) (iRng2 ta):=by
 intro pins s σ H R I h
 refine Call_ (ld_blt I hg hm boot_range (PyProof.Rows.callWith_type1 (thn (ha pos pins s σ H _ I h) fun us s1 ⟨vs,H1,I1,r1,q1⟩=>?_) (by rw [hs,hs2]) (by rw [hs2]; rfl)))
 obtain ⟨i,j,e,⟨q1,q2,q3,q4⟩,q⟩:=q1
 subst e
 cases r1 with
 | cons r rr =>
  cases rr with
  | cons r' rr =>
   cases rr
   obtain ⟨t,rfl⟩:=r
   obtain ⟨t',rfl⟩:=r'
   exact call_range_2 (range_it I1 q1 q2 q3 q4 q)
def tFor (wi:TI) (g:TG) (tb:TS):TS:=fun D σ H=>wi σ H fun J H1=>∃ W:Nat→Nat→St→Hp→Prop,(∃ m,W 0 m σ H1)∧∀ i m σ H,W i m σ H →
 (J.stop i H∧D.nx σ H)∨(J.go i H∧∃ N:St→Hp→Prop,(∀ σ' H',N σ' H'→∃ m',m' < m∧W (i+1) m' σ' H')∧∀ x H',J.yld i H x H'→g x σ H' fun σ2 H2=>tb { D with nx:=N,ct:=N,bk:=D.nx } σ2 H2)
noncomputable def pinsAt (fp:List Addr) (h:Heap):List (Addr×Obj):=fp.filterMap fun b=>(h.get? b).map fun o=>(b,o)
theorem mem_pinsAt {fp:List Addr} {h:Heap} {b:Addr} {o:Obj} (hb:b∈fp) (e:h.get? b=some o):(b,o)∈pinsAt fp h:=List.mem_filterMap.mpr ⟨b,hb,by rw [e]; rfl⟩
theorem of_pinsAt {fp:List Addr} {h:Heap} {p:Addr×Obj} (hp:p∈pinsAt fp h):p.1∈fp∧h.get? p.1=some p.2:=by
 obtain ⟨b,hb,e⟩:=List.mem_filterMap.mp hp
 cases q:h.get? b with
 | none=>rw [q] at e; cases e
 | some o =>
  rw [q] at e
  have e':(b,o)=p:=Option.some.inj e
  subst e'
  exact ⟨hb,q⟩
theorem Inv.pinned {pins:List (Addr×Obj)} {σ:St} {H:Hp} {s:Shared} {fp:List Addr} (I:Inv X pins σ H s) (hf:∀ b∈fp,FpOk X pins H b) (ho:∀ b∈fp,∃ o,s.heap.get? b=some o∧∀ v,o.data≠.cell v):Inv X (pins++pinsAt fp s.heap) σ H s :=
 I.pins_of fun p hp=>(List.mem_append.mp hp).elim (fun z=>I.pin p (List.mem_append_right _ z)) fun z=>by
  obtain ⟨hb,e⟩:=of_pinsAt z
  obtain ⟨f0,f1,f2,_⟩:=hf p.1 hb
  obtain ⟨o,e',d⟩:=ho p.1 hb
  rw [e] at e'; cases e'
  exact ⟨e,f0,f1,f2,d⟩
theorem Inv.unpinned {pins pl:List (Addr×Obj)} {σ:St} {H:Hp} {s:Shared} (I:Inv X (pins++pl) σ H s):Inv X pins σ H s:=I.pins_of fun p hp=>I.pin p (List.mem_append_right _ (List.mem_append_left _ hp))
theorem ps_for {iter:Expr} {body:List Stmt} {wi:TI} {g:TG} {tb:TS} {pos:Pos} (hp:PassesOwn (model X.prog X.w) X.A X.env X.xe) (hc:X.calm=true) (hi:PI X tg iter wi) (hg:PG X tg g) (hb:PSs X body tb)
  (hs:∀ x,foldedSetIterable iter X.env x=pure x:=by intro _; rfl):PS X (.For tg iter body [] pos) (tFor wi g tb):=by
 intro pins s σ H D I h
 refine wpAny_For (thn (hi pins s σ H _ I h) fun v s1 h1=>thn h1 fun itv s2 h2=>?_) hs
 obtain ⟨it,fp,tn,J,H2,e,I2,T,st2,f2,W,⟨m0,w0⟩,turn⟩:=h2
 subst e
 have stat:∀ {H':Hp},(∀ b∈fp,H' b=none)→∀ b∈fp,FpOk X pins H' b:=fun hn b hb=>⟨hn b hb,(f2 b hb).2⟩
 refine codeAny_forLoop_any (fun n s'=>∃ i σ' H',Inv X pins σ' H' s'∧tn i s'.heap∧(∀ b∈fp,H' b=none)∧W i n σ' H') ?_ m0 ⟨0,σ,H2,I2,st2,fun b hb=>(f2 b hb).1,w0⟩
 rintro n s3 ⟨i,σ3,H3,I3,st3,fr3,w3⟩
 rcases turn i n σ3 H3 w3 with ⟨stop,qn⟩ | ⟨go,N,hN,step⟩
 ·refine wpAny_passesOwn hp (thn (T.done X rfl rfl rfl hc i pins s3 σ3 H3 X.xe I3 (stat fr3) st3 stop) fun r s4 ⟨hr,I4⟩=>?_)
  subst hr
  exact wpAny_execs_nil ⟨σ3,H3,I4,qn⟩
 ·refine wpAny_passesOwn hp (thn (T.item X rfl rfl rfl hc i pins s3 σ3 H3 X.xe I3 (stat fr3) st3 go) fun r s4 ⟨u,hr,h4⟩=>?_)
  subst hr
  refine wpAny_passesOwn hp (thn h4 fun _ s5 ⟨x,H5,I5,r5,y5,st5,fr5⟩=>?_)
  have I5':=I5.pinned (stat fr5) (T.obj _ _ st5)
  refine wpAny_passesOwn hp (thn (hg _ s5 σ3 H5 x u _ I5' r5 (step x H5 y5)) fun _ s6 ⟨σ6,H6,I6,q6⟩=>?_)
  refine wpAny_passesOwn hp (thn (hb _ s6 σ6 H6 _ I6 q6) fun f s7 q7=>?_)
  have again:∀ {σ7:St} {H7:Hp},Inv X (pins++pinsAt fp s5.heap) σ7 H7 s7→N σ7 H7→∃ m,m < n∧∃ i σ' H',Inv X pins σ' H' s7∧tn i s7.heap∧(∀ b∈fp,H' b=none)∧W i m σ' H':=fun {σ7 H7} I7 n7=>by
   obtain ⟨m',hm,w7⟩:=hN σ7 H7 n7
   refine ⟨m',hm,i+1,σ7,H7,I7.unpinned,T.keep _ _ _ st5 fun b hb o e=>(I7.pin (b,o) (List.mem_append_right _ (List.mem_append_right _ (mem_pinsAt hb e)))).1,fun b hb=>?_,w7⟩
   obtain ⟨o,e,d⟩:=T.obj _ _ st5 b hb
   exact (I7.pin (b,o) (List.mem_append_right _ (List.mem_append_right _ (mem_pinsAt hb e)))).2.1
  cases f with
  | next=>obtain ⟨σ7,H7,I7,n7⟩:=q7; exact again I7 n7
  | cont=>obtain ⟨σ7,H7,I7,n7⟩:=q7; exact again I7 n7
  | brk=>obtain ⟨σ7,H7,I7,q7⟩:=q7; exact ⟨σ7,H7,I7.unpinned,q7⟩
  | ret v=>obtain ⟨x7,σ7,H7,I7,r7,q7⟩:=q7; exact ⟨x7,σ7,H7,I7.unpinned,r7,q7⟩
end
theorem for_list {K:PySem.W.Frag} {a:Addr} {xs:List V} {g:TG} {tb:TS} {D:Ends} {σ:St} {H:Hp} (Pv:Nat→St→Hp→Prop) (h0:Pv 0 σ H) (hl:∀ i σ H,i≤xs.length→Pv i σ H→SqL K H a xs)
  (hs:∀ i x σ H,xs[i]?=some x→Pv i σ H→g x σ H fun σ2 H2=>tb { D with nx:=Pv (i+1),ct:=Pv (i+1),bk:=D.nx } σ2 H2) (hd:∀ σ H,Pv xs.length σ H→D.nx σ H) :
  ∃ W:Nat→Nat→St→Hp→Prop,(∃ m,W 0 m σ H)∧∀ i m σ H,W i m σ H →
   ((Itl K a).stop i H∧D.nx σ H)∨((Itl K a).go i H∧∃ N:St→Hp→Prop,(∀ σ' H',N σ' H'→∃ m',m' < m∧W (i+1) m' σ' H')∧∀ x H',(Itl K a).yld i H x H'→g x σ H' fun σ2 H2=>tb { D with nx:=N,ct:=N,bk:=D.nx } σ2 H2):=by
 refine ⟨fun i m σ H=>m=xs.length - i∧i≤xs.length∧Pv i σ H,⟨xs.length,by simp,Nat.zero_le _,h0⟩,?_⟩
 rintro i m σ H ⟨rfl,hi,p⟩
 have q:=hl i σ H hi p
 by_cases hlt:i < xs.length
 ·refine .inr ⟨⟨xs,xs[i],q,by simp [hlt]⟩,Pv (i+1),fun σ' H' p'=>⟨xs.length - (i+1),by omega,rfl,hlt,p'⟩,fun x H' y=>?_⟩
  obtain ⟨e,y⟩:=y
  subst e
  exact hs i x σ _ (y xs q) p
 ·have e:i=xs.length:=by omega
  subst e
  exact .inl ⟨⟨xs,q,Nat.le_refl _⟩,hd σ H p⟩
theorem for_tup {K:PySem.W.Frag} {a:Addr} {xs:List V} {g:TG} {tb:TS} {D:Ends} {σ:St} {H:Hp} (Pv:Nat→St→Hp→Prop) (h0:Pv 0 σ H) (hl:∀ i σ H,i≤xs.length→Pv i σ H→SqT K H a xs)
  (hs:∀ i x σ H,xs[i]?=some x→Pv i σ H→g x σ H fun σ2 H2=>tb { D with nx:=Pv (i+1),ct:=Pv (i+1),bk:=D.nx } σ2 H2) (hd:∀ σ H,Pv xs.length σ H→D.nx σ H) :
  ∃ W:Nat→Nat→St→Hp→Prop,(∃ m,W 0 m σ H)∧∀ i m σ H,W i m σ H →
   ((Itt K a).stop i H∧D.nx σ H)∨((Itt K a).go i H∧∃ N:St→Hp→Prop,(∀ σ' H',N σ' H'→∃ m',m' < m∧W (i+1) m' σ' H')∧∀ x H',(Itt K a).yld i H x H'→g x σ H' fun σ2 H2=>tb { D with nx:=N,ct:=N,bk:=D.nx } σ2 H2):=by
 refine ⟨fun i m σ H=>m=xs.length - i∧i≤xs.length∧Pv i σ H,⟨xs.length,by simp,Nat.zero_le _,h0⟩,?_⟩
 rintro i m σ H ⟨rfl,hi,p⟩
 have q:=hl i σ H hi p
 by_cases hlt:i < xs.length
 ·refine .inr ⟨⟨xs,xs[i],q,by simp [hlt]⟩,Pv (i+1),fun σ' H' p'=>⟨xs.length - (i+1),by omega,rfl,hlt,p'⟩,fun x H' y=>?_⟩
  obtain ⟨e,y⟩:=y
  subst e
  exact hs i x σ _ (y xs q) p
 ·have e:i=xs.length:=by omega
  subst e
  exact .inl ⟨⟨xs,q,Nat.le_refl _⟩,hd σ H p⟩
theorem for_range {lo:Int} {n:Nat} {g:TG} {tb:TS} {D:Ends} {σ:St} {H:Hp} (Pv:Nat→St→Hp→Prop) (h0:Pv 0 σ H)
  (hs:∀ i σ H,i < n→Pv i σ H→g (.int (lo+i)) σ H fun σ2 H2=>tb { D with nx:=Pv (i+1),ct:=Pv (i+1),bk:=D.nx } σ2 H2) (hd:∀ σ H,Pv n σ H→D.nx σ H) :
  ∃ W:Nat→Nat→St→Hp→Prop,(∃ m,W 0 m σ H)∧∀ i m σ H,W i m σ H →
   ((Itr lo n).stop i H∧D.nx σ H)∨((Itr lo n).go i H∧∃ N:St→Hp→Prop,(∀ σ' H',N σ' H'→∃ m',m' < m∧W (i+1) m' σ' H')∧∀ x H',(Itr lo n).yld i H x H'→g x σ H' fun σ2 H2=>tb { D with nx:=N,ct:=N,bk:=D.nx } σ2 H2):=by
 refine ⟨fun i m σ H=>m=n - i∧i≤n∧Pv i σ H,⟨n,by simp,Nat.zero_le _,h0⟩,?_⟩
 rintro i m σ H ⟨rfl,hi,p⟩
 by_cases hlt:i < n
 ·refine .inr ⟨hlt,Pv (i+1),fun σ' H' p'=>⟨n - (i+1),by omega,rfl,hlt,p'⟩,fun x H' y=>?_⟩
  obtain ⟨e,y⟩:=y
  subst e y
  exact hs i σ _ hlt p
 ·have e:i=n:=by omega
  subst e
  exact .inl ⟨Nat.le_refl _,hd σ H p⟩
abbrev R2:=V→V→Hp→VK→Prop
def OpR (X:Cx) (f:Value→Value→Sem Value) (r:R2):Prop :=
 ∀ (pins:List (Addr×Obj)) (s:Shared) (σ:St) (H:Hp) (x y:V) (v u:Value) (Q:VK),Inv X pins σ H s→RelV x v→RelV y u→r x y H Q →
  wpAny (model X.prog X.w) X.A (f v u) (EP X pins σ Q) X.xe s
def CallR (X:Cx) (f:Value) (r:List V→Hp→VK→Prop):Prop :=
 ∀ (pins:List (Addr×Obj)) (s:Shared) (σ:St) (H:Hp) (xs:List V) (us:List Value) (Q:VK),Inv X pins σ H s→Vals xs us→r xs H Q →
  wpAny (model X.prog X.w) X.A (call f us) (EP X pins σ Q) X.xe s
def TruR (X:Cx) (r:V→Hp→(Bool→Hp→Prop)→Prop):Prop :=
 ∀ (pins:List (Addr×Obj)) (s:Shared) (σ:St) (H:Hp) (x:V) (v:Value) (Q:Bool→Hp→Prop),Inv X pins σ H s→RelV x v→r x H Q →
  wpAny (model X.prog X.w) X.A (truthy v) (TP X pins σ Q) X.xe s
def tOp (r:R2) (ta tb:TE):TE:=fun σ H Q=>ta σ H fun x H1=>tb σ H1 fun y H2=>r x y H2 Q
def tUn (r:V→Hp→VK→Prop) (ta:TE):TE:=fun σ H Q=>ta σ H fun x H1=>r x H1 Q
def rI (C:Int→Int→Prop) (g:Int→Int→V):R2:=fun x y H Q=>∃ i j,x=.int i∧y=.int j∧C i j∧Q (g i j) H
def rI0 (g:Int→Int→V):R2:=fun x y H Q=>∃ i j,x=.int i∧y=.int j∧Q (g i j) H
def rU (g:Int→V):V→Hp→VK→Prop:=fun x H Q=>∃ i,x=.int i∧Q (g i) H
section
variable {X:Cx} {a b c:Expr} {ta tb tc:TE} {pos:Pos}
theorem binT (ha:PE X a ta) (hb:PE X b tb) {pins:List (Addr×Obj)} {s:Shared} {σ:St} {H:Hp} {R:V→V→Hp→Prop} (I:Inv X pins σ H s)
  (h:ta σ H fun x H1=>tb σ H1 fun y H2=>R x y H2) {Q:Value→Shared→Prop} {f:Value→Value→Sem Value}
  (hf:∀ v u s2 x y H2,Inv X pins σ H2 s2→RelV x v→RelV y u→R x y H2→wpAny (model X.prog X.w) X.A (f v u) Q X.xe s2) :
  wpAny (model X.prog X.w) X.A (eval a X.env) (fun v s₁=>wpAny (model X.prog X.w) X.A (eval b X.env) (fun u s₂=>wpAny (model X.prog X.w) X.A (f v u) Q X.xe s₂) X.xe s₁) X.xe s:=by
 refine thn (ha pins s σ H _ I h) fun v s1 ⟨x,H1,I1,r1,q1⟩=>?_
 refine thn (hb pins s1 σ H1 _ I1 q1) fun u s2 ⟨y,H2,I2,r2,q2⟩=>?_
 exact hf v u s2 x y H2 I2 r1 r2 q2
theorem pe_op {op:Operator} {r:R2} (ho:OpR X (binaryOp op) r) (ha:PE X a ta) (hb:PE X b tb):PE X (.BinOp a op b pos) (tOp r ta tb):=by
 intro pins s σ H Q I h
 exact wpAny_BinOp (binT ha hb I h fun v u s2 x y H2 I2 rx ry q=>ho pins s2 σ H2 x y v u Q I2 rx ry q)
theorem opI {f:Value→Value→Sem Value} {C:Int→Int→Prop} {g:Int→Int→Int}
  (rule:∀ (i j:Int) (t u:Tok) (s:Shared) (Q:Value→Shared→Prop) (E:Value→Shared→Prop),C i j→Q (.int (g i j) s.toks) { s with toks:=s.toks+1 }→wpAny (model X.prog X.w) X.A (f (.int i t) (.int j u)) Q E s) :
  OpR X f (rI C fun i j=>.int (g i j)):=by
 intro pins s σ H x y v u Q I rx ry h
 obtain ⟨i,j,rfl,rfl,hc,q⟩:=h
 obtain ⟨t,rfl⟩:=rx
 obtain ⟨t',rfl⟩:=ry
 exact rule i j t t' s _ _ hc ⟨.int (g i j),H,I.tok _,⟨_,rfl⟩,q⟩
theorem opI0 {f:Value→Value→Sem Value} {g:Int→Int→Int}
  (rule:∀ (i j:Int) (t u:Tok) (s:Shared) (Q:Value→Shared→Prop) (E:Value→Shared→Prop),Q (.int (g i j) s.toks) { s with toks:=s.toks+1 }→wpAny (model X.prog X.w) X.A (f (.int i t) (.int j u)) Q E s) :
  OpR X f (rI0 fun i j=>.int (g i j)):=by
 intro pins s σ H x y v u Q I rx ry h
 obtain ⟨i,j,rfl,rfl,q⟩:=h
 obtain ⟨t,rfl⟩:=rx
 obtain ⟨t',rfl⟩:=ry
 exact rule i j t t' s _ _ ⟨.int (g i j),H,I.tok _,⟨_,rfl⟩,q⟩
theorem opB0 {f:Value→Value→Sem Value} {g:Int→Int→Bool}
  (rule:∀ (i j:Int) (t u:Tok) (s:Shared) (Q:Value→Shared→Prop) (E:Value→Shared→Prop),Q (.bool (g i j)) s→wpAny (model X.prog X.w) X.A (f (.int i t) (.int j u)) Q E s) :
  OpR X f (rI0 fun i j=>.bl (g i j)):=by
 intro pins s σ H x y v u Q I rx ry h
 obtain ⟨i,j,rfl,rfl,q⟩:=h
 obtain ⟨t,rfl⟩:=rx
 obtain ⟨t',rfl⟩:=ry
 exact rule i j t t' s _ _ ⟨.bl (g i j),H,I,rfl,q⟩
def CDiv (i j:Int):Prop:=0 < j∧j < 1073741824
def CPow (i j:Int):Prop:=0≤j∧j≤1000000∧i.natAbs < 2 ^ 64
def CMul (i j:Int):Prop:=(-(2 ^ 64) < i∧i < 2 ^ 64)∨(-(2 ^ 64) < j∧j < 2 ^ 64)
theorem CMul.ok {i j:Int} (h:CMul i j):IntMulOk i j:=by
 rcases h with ⟨h1,h2⟩ | ⟨h1,h2⟩
 ·exact .of_left (intBits_le_64 h1 h2)
 ·exact .of_right (intBits_le_64 h1 h2)
theorem op_add:OpR X (binaryOp .Add) (rI0 fun i j=>.int (i+j)):=opI0 fun _ _ _ _ _ _ _ q=>add_int q
theorem op_sub:OpR X (binaryOp .Sub) (rI0 fun i j=>.int (i - j)):=opI0 fun _ _ _ _ _ _ _ q=>sub_int q
theorem op_mul:OpR X (binaryOp .Mult) (rI CMul fun i j=>.int (i*j)):=opI fun _ _ _ _ _ _ _ hc q=>mul_int q hc.ok
theorem op_fdiv:OpR X (binaryOp .FloorDiv) (rI CDiv fun i j=>.int (i / j)):=opI fun i j _ _ _ _ _ hc q=>by
 have h1:(0:Int) < j:=hc.1
 have h2:j < 1073741824:=hc.2
 exact floordiv_int (by omega) (by rw [Int.fdiv_eq_ediv_of_nonneg i (by omega)]; exact q) (.inl (PyProof.noPylong_small (by omega)))
theorem op_mod:OpR X (binaryOp .Mod) (rI (fun _ j=>0 < j) fun i j=>.int (i % j)):=opI fun i j _ _ _ _ _ hc q=>by
 have h1:(0:Int) < j:=hc
 exact mod_int' (by omega) (by rw [Int.fmod_eq_emod_of_nonneg i (by omega)]; exact q)
theorem op_pow:OpR X (binaryOp .Pow) (rI CPow fun i j=>.int (i ^ j.toNat)):=opI fun _ _ _ _ _ _ _ hc q=>pow_int_small hc.1 hc.2.1 hc.2.2 q
end
noncomputable def scal:V→V→Bool
 | .non,.non=>true | .non,.int _=>true | .int _,.non=>true | .non,.bl _=>true | .bl _,.non=>true | .non,.str _=>true | .str _,.non=>true
 | .int _,.int _=>true | .bl _,.bl _=>true | .str _,.str _=>true | .byt _,.byt _=>true
 | .int _,.str _=>true | .str _,.int _=>true | .bl _,.str _=>true | .str _,.bl _=>true
 | _,_=>false
theorem scal_ii (a b:Int):scal (.int a) (.int b)=true:=rfl
def rEq:R2:=fun x y H Q=>scal x y=true∧Q (.bl (decide (x=y))) H
def rNe:R2:=fun x y H Q=>scal x y=true∧Q (.bl (!decide (x=y))) H
theorem dec_int {i j:Int}:decide (V.int i=V.int j)=(i == j):=by
 rw [Bool.eq_iff_iff]
 simp
theorem dec_bl {i j:Bool}:decide (V.bl i=V.bl j)=(i == j):=by
 rw [Bool.eq_iff_iff]
 simp
theorem dec_str {i j:Str}:decide (V.str i=V.str j)=(i == j):=by
 rw [Bool.eq_iff_iff]
 simp
theorem dec_byt {i j:Array UInt8}:decide (V.byt i=V.byt j)=(i.toList == j.toList):=by
 rw [Bool.eq_iff_iff]
 cases i
 cases j
 simp
section
variable {X:Cx} {a b c:Expr} {ta tb tc:TE} {pos:Pos}
theorem fin_bl {pins:List (Addr×Obj)} {σ:St} {H:Hp} {s:Shared} {Q:VK} {k k':Bool} (I:Inv X pins σ H s) (q:Q (.bl k) H) (e:k=k'):EP X pins σ Q (.bool k') s:=by
 subst e
 exact ⟨.bl k,H,I,rfl,q⟩
theorem op_eq:OpR X (compareOp .Eq) rEq:=by
 intro pins s σ H x y v u Q I rx ry h
 obtain ⟨hs,q⟩:=h
 cases x with
 | non =>
  cases rx
  cases y with
  | non=>cases ry; exact PySem.EqNone.eq_none_none (fin_bl I q (by simp))
  | bl j=>cases ry; exact PySem.EqNone.eq_none_bool (fin_bl I q (by simp))
  | int j=>obtain ⟨t',rfl⟩:=ry; exact PySem.EqNone.eq_none_int (fin_bl I q (by simp))
  | str j=>obtain ⟨t',rfl⟩:=ry; exact PySem.EqNone.eq_none_str (fin_bl I q (by simp))
  | _=>exact absurd (show false=true from hs) Bool.false_ne_true
 | bl i =>
  cases rx
  cases y with
  | non=>cases ry; exact PySem.EqNone.eq_bool_none (fin_bl I q (by simp))
  | bl j=>cases ry; exact eq_bool (fin_bl I q dec_bl)
  | str j=>obtain ⟨t',rfl⟩:=ry; exact PySem.EqMixed.eq_bool_str (fin_bl I q (by simp))
  | _=>exact absurd (show false=true from hs) Bool.false_ne_true
 | int i =>
  obtain ⟨t,rfl⟩:=rx
  cases y with
  | non=>cases ry; exact PySem.EqNone.eq_int_none (fin_bl I q (by simp))
  | int j=>obtain ⟨t',rfl⟩:=ry; exact eq_int (fin_bl I q dec_int)
  | str j=>obtain ⟨t',rfl⟩:=ry; exact PySem.EqMixed.eq_int_str (fin_bl I q (by simp))
  | _=>exact absurd (show false=true from hs) Bool.false_ne_true
 | str i =>
  obtain ⟨t,rfl⟩:=rx
  cases y with
  | non=>cases ry; exact PySem.EqNone.eq_str_none (fin_bl I q (by simp))
  | bl j=>cases ry; exact PySem.EqMixed.eq_str_bool (fin_bl I q (by simp))
  | int j=>obtain ⟨t',rfl⟩:=ry; exact PySem.EqMixed.eq_str_int (fin_bl I q (by simp))
  | str j=>obtain ⟨t',rfl⟩:=ry; exact eq_str (fin_bl I q dec_str)
  | _=>exact absurd (show false=true from hs) Bool.false_ne_true
 | byt i =>
  obtain ⟨t,rfl⟩:=rx
  cases y with
  | byt j=>obtain ⟨t',rfl⟩:=ry; exact PySem.W.eq_bytes (fin_bl I q dec_byt)
  | _=>exact absurd (show false=true from hs) Bool.false_ne_true
 | _=>cases y <;> exact absurd (show false=true from hs) Bool.false_ne_true
theorem op_ne:OpR X (compareOp .NotEq) rNe:=by
 intro pins s σ H x y v u Q I rx ry h
 obtain ⟨hs,q⟩:=h
 cases x with
 | non =>
  cases rx
  cases y with
  | non=>cases ry; exact PySem.EqNone.ne_none_none (fin_bl I q (by simp))
  | bl j=>cases ry; exact PySem.EqNone.ne_none_bool (fin_bl I q (by simp))
  | int j=>obtain ⟨t',rfl⟩:=ry; exact PySem.EqNone.ne_none_int (fin_bl I q (by simp))
  | str j=>obtain ⟨t',rfl⟩:=ry; exact PySem.EqNone.ne_none_str (fin_bl I q (by simp))
  | _=>exact absurd (show false=true from hs) Bool.false_ne_true
 | bl i =>
  cases rx
  cases y with
  | non=>cases ry; exact PySem.EqNone.ne_bool_none (fin_bl I q (by simp))
  | bl j=>cases ry; exact ne_bool (fin_bl I q (congrArg not dec_bl))
  | str j=>obtain ⟨t',rfl⟩:=ry; exact PySem.EqMixed.ne_bool_str (fin_bl I q (by simp))
  | _=>exact absurd (show false=true from hs) Bool.false_ne_true
 | int i =>
  obtain ⟨t,rfl⟩:=rx
  cases y with
  | non=>cases ry; exact PySem.EqNone.ne_int_none (fin_bl I q (by simp))
  | int j=>obtain ⟨t',rfl⟩:=ry; exact ne_int (fin_bl I q (congrArg not dec_int))
  | str j=>obtain ⟨t',rfl⟩:=ry; exact PySem.EqMixed.ne_int_str (fin_bl I q (by simp))
  | _=>exact absurd (show false=true from hs) Bool.false_ne_true
 | str i =>
  obtain ⟨t,rfl⟩:=rx
  cases y with
  | non=>cases ry; exact PySem.EqNone.ne_str_none (fin_bl I q (by simp))
  | bl j=>cases ry; exact PySem.EqMixed.ne_str_bool (fin_bl I q (by simp))
  | int j=>obtain ⟨t',rfl⟩:=ry; exact PySem.EqMixed.ne_str_int (fin_bl I q (by simp))
  | str j=>obtain ⟨t',rfl⟩:=ry; exact ne_str (fin_bl I q (congrArg not dec_str))
  | _=>exact absurd (show false=true from hs) Bool.false_ne_true
 | byt i =>
  obtain ⟨t,rfl⟩:=rx
  cases y with
  | byt j=>obtain ⟨t',rfl⟩:=ry; exact PySem.W.ne_bytes (fin_bl I q (congrArg not dec_byt))
  | _=>exact absurd (show false=true from hs) Bool.false_ne_true
 | _=>cases y <;> exact absurd (show false=true from hs) Bool.false_ne_true
theorem op_lt:OpR X (compareOp .Lt) (rI0 fun i j=>.bl (decide (i < j))):=opB0 fun _ _ _ _ _ _ _ q=>lt_int q
theorem op_le:OpR X (compareOp .LtE) (rI0 fun i j=>.bl (decide (i≤j))):=opB0 fun _ _ _ _ _ _ _ q=>le_int q
theorem op_gt:OpR X (compareOp .Gt) (rI0 fun i j=>.bl (decide (j < i))):=opB0 fun _ _ _ _ _ _ _ q=>gt_int q
theorem op_ge:OpR X (compareOp .GtE) (rI0 fun i j=>.bl (decide (j≤i))):=opB0 fun _ _ _ _ _ _ _ q=>ge_int q
theorem op_isN:OpR X (compareOp .Is) (fun x y H Q=>y=.non∧Q (.bl (decide (x=.non))) H):=by
 intro pins s σ H x y v u Q I rx ry h
 obtain ⟨rfl,q⟩:=h
 cases ry
 refine is_none_gen (fin_bl I q ?_)
 cases x <;> first
  | (cases rx; rfl)
  | (obtain ⟨t,rfl⟩:=rx; rfl)
theorem op_notN:OpR X (compareOp .IsNot) (fun x y H Q=>y=.non∧Q (.bl (!decide (x=.non))) H):=by
 intro pins s σ H x y v u Q I rx ry h
 obtain ⟨rfl,q⟩:=h
 cases ry
 refine isnot_none_gen (fin_bl I q ?_)
 cases x <;> first
  | (cases rx; rfl)
  | (obtain ⟨t,rfl⟩:=rx; rfl)
theorem nomark (b:Expr) {op:CmpOp} (h:op≠.In:=by decide) (h2:op≠.NotIn:=by decide):behindInMarks op b=false:=by
 have e1:(op == CmpOp.In)=false:=by cases op <;> first | rfl | exact absurd rfl h
 have e2:(op == CmpOp.NotIn)=false:=by cases op <;> first | rfl | exact absurd rfl h2
 cases b with
 | Set elts k p=>show (k == 0 && (op == CmpOp.In || op == CmpOp.NotIn) && elts.all (constantsAlone 8))=false; rw [e1,e2,Bool.or_false,Bool.and_false,Bool.false_and]
 | _=>rfl
theorem pe_cmpR {op:CmpOp} {r:R2} (ho:OpR X (compareOp op) r) (ha:PE X a ta) (hb:PE X b tb) (hm:behindInMarks op b=false):PE X (.Compare a [op] [b] pos) (tOp r ta tb):=by
 intro pins s σ H Q I h
 exact wpAny_Compare1 (binT ha hb I h fun v u s2 x y H2 I2 rx ry q=>ho pins s2 σ H2 x y v u Q I2 rx ry q) hm
def tTest (t:TE):TT:=fun σ H Q=>t σ H fun x H'=>∃ k,x=.bl k∧Q k H'
theorem pt_cmpR {op:CmpOp} {r:R2} (ho:OpR X (compareOp op) r) (ha:PE X a ta) (hb:PE X b tb) (hm:behindInMarks op b=false):PT X (.Compare a [op] [b] pos) (tTest (tOp r ta tb)):=by
 intro pins s σ H Q I h
 refine wpAny_isTrue_Compare1 (thn (ha pins s σ H _ I h) fun v s1 ⟨x,H1,I1,r1,q1⟩=>thn (hb pins s1 σ H1 _ I1 q1) fun u s2 ⟨y,H2,I2,r2,q2⟩ =>
  thn (ho pins s2 σ H2 x y v u _ I2 r1 r2 q2) fun c s3 ⟨z,H3,I3,r3,k,e,q3⟩=>?_) hm
 subst e
 cases r3
 exact wpAny_truthy_bool ⟨H3,I3,q3⟩
def TruV (K:PySem.W.Frag) (x:V) (H:Hp) (k:Bool):Prop :=
 match x with
 | .non=>k=false
 | .bl b=>k=b
 | .int i=>k=(i != 0)
 | .str y=>y.length≤sizeLine∧k=((y.length:Int) != 0)
 | .byt y=>y.size≤sizeLine∧k=((y.size:Int) != 0)
 | .ref p=>(∃ xs,SqL K H p xs∧k=!xs.isEmpty)∨(∃ xs,SqT K H p xs∧k=!xs.isEmpty)∨∃ kvs,H p=some (.dK kvs)∧k=!kvs.isEmpty
 | _=>False
theorem isEmpty_kv {κ:Type} {kvs:List (κ×V)} {vs:List (κ×Value)} (r:KV kvs vs):(!vs.isEmpty)=!kvs.isEmpty:=by
 cases r <;> rfl
theorem isEmpty_of {xs:List V} {its:List Value} (r:Vals xs its):(!its.toArray.isEmpty)=!xs.isEmpty:=by
 cases r <;> simp
theorem line63:(sizeLine:Nat) < 2 ^ 63:=by rw [sizeLine_eq]; decide
theorem tru_ok:TruR X (fun x H Q=>∃ k,TruV X.K x H k∧Q k H):=by
 intro pins s σ H x v Q I rx h
 obtain ⟨k,e,q⟩:=h
 have hl:=line63
 have hs:sizeLine=16777216:=sizeLine_eq
 cases x with
 | non =>
  cases rx
  have e':k=false:=e
  subst e'
  exact truthy_none ⟨H,I,q⟩
 | bl b =>
  cases rx
  have e':k=b:=e
  subst e'
  exact wpAny_truthy_bool ⟨H,I,q⟩
 | int i =>
  obtain ⟨t,rfl⟩:=rx
  have e':k=(i != 0):=e
  subst e'
  exact PySem.P.truthy_int ⟨H,I,q⟩
 | str y =>
  obtain ⟨t,rfl⟩:=rx
  obtain ⟨hy,e'⟩:y.length≤sizeLine∧k=((y.length:Int) != 0):=e
  subst e'
  exact PySem.P.truthy_str (by omega) ⟨H,I.tok _,q⟩
 | byt y =>
  obtain ⟨t,rfl⟩:=rx
  obtain ⟨hy,e'⟩:y.size≤sizeLine∧k=((y.size:Int) != 0):=e
  subst e'
  exact PySem.W.truthy_bytes (by omega) ⟨H,I.tok _,q⟩
 | ref p =>
  cases rx
  have e':(∃ xs,SqL X.K H p xs∧k=!xs.isEmpty)∨(∃ xs,SqT X.K H p xs∧k=!xs.isEmpty)∨∃ kvs,H p=some (.dK kvs)∧k=!kvs.isEmpty:=e
  rcases e' with ⟨xs,hx,e'⟩ | ⟨xs,hx,e'⟩ | ⟨kvs,hx,e'⟩
  ·subst e'
   obtain ⟨its,r,pl,hz⟩:=I.list hx
   have hlen:=r.length
   exact wpAny_truthy_list pl.isList (by simp only [List.size_toArray]; omega) ⟨H,I.tok _,by rw [isEmpty_of r]; exact q⟩
  ·subst e'
   obtain ⟨its,r,pl,hz⟩:=I.tuple hx
   have hlen:=r.length
   exact truthy_tuple pl (by simp only [List.size_toArray]; omega) ⟨H,I.tok _,by rw [isEmpty_of r]; exact q⟩
  ·subst e'
   obtain ⟨hz,hS,vs,r,m⟩:kvs.length≤sizeLine∧(p == sysModules)=false∧∃ vs,KV kvs vs∧s.heap.DictOf (mixKind X.prog X.w) p vs:=I.hok p _ hx
   have hlen:kvs.length=vs.length:=Paired.length r
   exact wpAny_truthy_dict hS m (by omega) ⟨H,I.tok _,by rw [isEmpty_kv r]; exact q⟩
 | _=>exact (show False from e).elim
theorem pt_truth (ha:PE X a ta) (he:∀ whole,isTrue a X.env whole=(do let v ← whole; standAt a.pos; holding [v] (truthy v))) :
  PT X a (fun σ H Q=>ta σ H fun x H'=>∃ k,TruV X.K x H' k∧Q k H'):=by
 intro pins s σ H Q I h
 exact isTrue_plain (thn (ha pins s σ H _ I h) fun v s1 ⟨x,H1,I1,r1,q1⟩=>tru_ok pins s1 σ H1 x v Q I1 r1 q1) (he _)
theorem vals1 {x:V} {us:List Value} (r:Vals [x] us):∃ u,us=[u]∧RelV x u:=by
 cases r with
 | cons r1 r2=>cases r2; exact ⟨_,rfl,r1⟩
theorem vals2 {x y:V} {us:List Value} (r:Vals [x,y] us):∃ u w',us=[u,w']∧RelV x u∧RelV y w':=by
 cases r with
 | cons r1 r2 =>
  cases r2 with
  | cons r3 r4=>cases r4; exact ⟨_,_,rfl,r1,r3⟩
theorem call_max2 (hc:X.calm=true):CallR X (.builtin "max") (fun xs H Q=>∃ i j,xs=[.int i,.int j]∧Q (.int (if j > i then j else i)) H):=by
 intro pins s σ H xs us Q I r h
 obtain ⟨i,j,rfl,q⟩:=h
 obtain ⟨u,w',rfl,⟨t,rfl⟩,⟨t',rfl⟩⟩:=vals2 r
 refine max_two_ints (I.ok.hd hc) fun h' tk k=>⟨_,H,I.kept k,?_,q⟩
 by_cases hj:j > i
 ·rw [if_pos hj,if_pos hj]; exact ⟨_,rfl⟩
 ·rw [if_neg hj,if_neg hj]; exact ⟨_,rfl⟩
theorem call_min2 (hc:X.calm=true):CallR X (.builtin "min") (fun xs H Q=>∃ i j,xs=[.int i,.int j]∧Q (.int (if j < i then j else i)) H):=by
 intro pins s σ H xs us Q I r h
 obtain ⟨i,j,rfl,q⟩:=h
 obtain ⟨u,w',rfl,⟨t,rfl⟩,⟨t',rfl⟩⟩:=vals2 r
 refine min_two_ints (I.ok.hd hc) fun h' tk k=>⟨_,H,I.kept k,?_,q⟩
 by_cases hj:j < i
 ·rw [if_pos hj,if_pos hj]; exact ⟨_,rfl⟩
 ·rw [if_neg hj,if_neg hj]; exact ⟨_,rfl⟩
theorem call_int1:CallR X (.type "int") (fun xs H Q=>(∃ i,xs=[.int i]∧Q (.int i) H)∨∃ k,xs=[.bl k]∧Q (.int (if k then 1 else 0)) H):=by
 intro pins s σ H xs us Q I r h
 rcases h with ⟨i,rfl,q⟩ | ⟨k,rfl,q⟩
 ·obtain ⟨u,rfl,t,rfl⟩:=vals1 r
  exact call_int_int ⟨.int i,H,I,⟨_,rfl⟩,q⟩
 ·obtain ⟨u,rfl,r1⟩:=vals1 r
  cases r1
  exact call_int_bool ⟨.int (if k then 1 else 0),H,I.tok _,⟨_,rfl⟩,q⟩
end
structure ObjM (h:Heap) (x dx C:Addr) (mA:Str→Option Value):Prop where
 obj:h.get? x=some (PySem.W.instObj C dx)
 ns:h.Ns1 dx mA
 ne:dx≠x
theorem lookIn_ns {h:Heap} {dx:Addr} {mA:Str→Option Value} (n:h.Ns1 dx mA):∃ od,h.get? dx=some od∧∀ name,PySem.W.lookIn name od=some (mA name):=by
 obtain ⟨o,es,ep,ho,hd,hk,_,hm⟩:=n
 refine ⟨o,ho,fun name=>?_⟩
 have e:=hm name
 unfold nsFind findBy at e
 rw [← Array.find?_toList] at e
 unfold PySem.W.lookIn
 rw [hd]
 dsimp only
 split
 ·rename_i y q
  rw [q] at e
  exact congrArg some e
 ·rename_i q
  rw [q] at e
  have a:es.toList.any (·.refKey)=false:=by
   rw [List.any_eq_false]
   intro y hy
   obtain ⟨z,t,hkey⟩:=hk y (Array.mem_toList_iff.mp hy)
   simp [DictEntry.refKey,hkey]
  have a':¬ es.toList.any (·.refKey)=true:=by rw [a]; exact Bool.false_ne_true
  rw [if_neg a']
  exact congrArg some e
theorem ObjM.look {h:Heap} {x dx C:Addr} {mA:Str→Option Value} (I:ObjM h x dx C mA):∃ od,PySem.W.InstAt h x (PySem.W.instObj C dx) C (some od)∧∀ name,PySem.W.lookIn name od=some (mA name) :=
 let ⟨od,ho,hl⟩:=lookIn_ns I.ns
 ⟨od,⟨I.obj,rfl,rfl,ho⟩,hl⟩
section
variable {prog:Program} {w:World} {A:Around} {E:Value→Shared→Prop} {s:Shared} {K:PySem.W.Frag} {x dx C f:Addr} {mA:Str→Option Value} {name:Str} {v:Value}
theorem get_map {expr:Bool} {Q:Value→Shared→Prop} (X:K.In s.heap) (I:ObjM s.heap x dx C mA) (hg:PySem.W.plainGet K C name=true) (hh:PySem.W.hasDictIn K C=true)
  (ha:PySem.W.findIn K (.ref C) name=some none) (hv:mA name=some v) (hv':PySem.W.handedIn v=true) (h:Q v { s with toks:=s.toks+1 }) :
  wpAny (model prog w) A (getAttr (.ref x) name expr) Q E s:=by
 obtain ⟨od,J,hl⟩:=I.look
 exact PySem.W.get_value X J (PySem.W.plainGet_of hg).1 (PySem.W.findObj_own hh ha rfl (by rw [hl,hv])) hv' h
theorem get_meth {pl:Sem Bool} {Q:Value×List Value→Shared→Prop} (X:K.In s.heap) (I:ObjM s.heap x dx C mA) (hg:PySem.W.plainGet K C name=true)
  (hf:PySem.W.findIn K (.ref C) name=some (some (.ref f))) (ht:PySem.W.isFn K (.ref f)=true) (hv:mA name=none) (h:Q (.ref f,[.ref x]) s) :
  wpAny (model prog w) A (getMethod (.ref x) name pl) Q E s:=by
 obtain ⟨od,J,hl⟩:=I.look
 exact PySem.W.method_fn X J (PySem.W.plainGet_of hg).1 (PySem.W.plainGet_of hg).2 hf (beq_iff_eq.mp ht) (by show (PySem.W.lookIn name od).map (·.isSome)=some false; rw [hl,hv]; rfl) h
theorem set_map {ns:List Str} {Q:Unit→Shared→Prop} (X:K.In s.heap) (I:ObjM s.heap x dx C mA)
  (hs:PySem.W.findIn K (.ref C) "__setattr__" = some (some (.builtin "object.__setattr__"))) (hp:PySem.W.plainOver K C=true) (ht:PySem.W.takerIn K C name=some none) (hh:PySem.W.hasDictIn K C=true)
  (hw:PySem.Within mA ns) (hsz:ns.length≤sizeLine)
  (h:∀ h',ObjM h' x dx C (fun y=>if y=name then some v else mA y)→Heap.SameBut dx s.heap h'→Q () { s with heap:=h',toks:=s.toks+2 }) :
  wpAny (model prog w) A (setAttr (.ref x) name v) Q E s:=by
 obtain ⟨od,J,hl⟩:=I.look
 refine PySem.W.set_plain X J hs (PySem.W.osa_open (s:={ s with toks:=s.toks+1 }) (r:=none) X J hp ht fun b=>?_)
 obtain ⟨cd,hc,hd'⟩:=PySem.W.any_some hh
 have hx:s.heap.get? x=some ⟨.ref C,some dx,.plain,#[]⟩:=I.obj
 refine wpAny_bind (wpAny_pure (wpAny_bind (wpAny_bind (wpAny_loadPart hx (wpAny_bind (PySem.W.Looks.here (s:={ s with toks:=s.toks+1 }) (PySem.W.looks_clsIn X hc) ?_))))))
 rw [hd']
 refine wpAny_pure (a:=some dx) (wpAny_bind (wpAny_pure (wpAny_bind ?_)))
 refine wpAny_nsSet1 (s:={ s with toks:=s.toks+1 }) I.ns fun h' hn2 hs2=>?_
 obtain ⟨oD,esD,epD,hoD,hdD,hcD⟩:=hn2.count (PySem.Within.cons name v hw)
 refine wpAny_bind (wpAny_lookBehind hoD (by rw [hdD]; exact pastItsLine_dict (Nat.le_trans hcD (by rw [List.length_cons]; omega))) ?_)
 exact wpAny_pure (h _ ⟨(hs2.2 _ (Ne.symm I.ne)).trans I.obj,hn2,I.ne⟩ hs2)
theorem make_map {R:Result→Shared→Prop} {vs:List Value} {kw:List (Str×Value)} (X:K.In s.heap) (hm:PySem.W.makesIn K C=true)
  (hi:PySem.W.findIn K (.ref C) "__init__" = some (some (.ref f))) (hf:PySem.W.typeIn K (.ref f)=some (.type "function"))
  (h:codeAny (model prog w) (A.under (.builtin "type.__call__" ⟨.ref C::vs,kw⟩)) (.call (.ref f) ⟨.ref (s.heap.objs.size+1)::vs,kw⟩) (PySem.W.InitBack (s.heap.objs.size+1) R)
   { s with heap:=(s.heap.push PySem.W.emptyDict).push (PySem.W.instObj C s.heap.objs.size) }) :
  codeAny (model prog w) A (.call (.ref C) ⟨vs,kw⟩) R s:=by
 obtain ⟨hh,g,d,t,os⟩:=s
 exact PySem.W.make_core (PySem.W.makes_of X hm) (PySem.W.looks_findIn X hi) (fun self=>PySem.W.bind_fn X self hf) (.inl rfl) h
end
noncomputable def putF (f:Str) (v:V):List (Str×V)→List (Str×V)
 | []=>[(f,v)]
 | (g,x)::r=>if g=f then (g,v)::r else (g,x)::putF f v r
theorem lookup_putF (f g:Str) (v:V):∀ fs:List (Str×V),(putF f v fs).lookup g=if g=f then some v else fs.lookup g
 | []=>by
  show List.lookup g [(f,v)]=_
  by_cases h:g=f
  ·have hb:(g == f)=true:=beq_iff_eq.mpr h
   simp only [List.lookup,hb,if_pos h]
  ·have hb:(g == f)=false:=beq_eq_false_iff_ne.mpr h
   simp only [List.lookup,hb,if_neg h]
 | (k,x)::r=>by
  have ih:=lookup_putF f g v r
  rw [show putF f v ((k,x)::r)=(if k=f then (k,v)::r else (k,x)::putF f v r) from rfl]
  by_cases hk:k=f
  ·rw [if_pos hk]
   by_cases h:g=k
   ·have hb:(g == k)=true:=beq_iff_eq.mpr h
    simp only [List.lookup,hb,if_pos (h.trans hk)]
   ·have hb:(g == k)=false:=beq_eq_false_iff_ne.mpr h
    simp only [List.lookup,hb,if_neg (fun e:g=f=>h (e.trans hk.symm))]
  ·rw [if_neg hk]
   by_cases h:g=k
   ·have hb:(g == k)=true:=beq_iff_eq.mpr h
    simp only [List.lookup,hb,if_neg (fun e:g=f=>hk (h.symm.trans e))]
   ·have hb:(g == k)=false:=beq_eq_false_iff_ne.mpr h
    simp only [List.lookup,hb]
    exact ih
theorem keys_putF (f:Str) (v:V):∀ fs:List (Str×V),f∈(putF f v fs).map (·.1)∧∀ g,g∈fs.map (·.1)→g∈(putF f v fs).map (·.1)
 | []=>⟨by simp [putF],fun g h=>by simp at h⟩
 | (k,x)::r=>by
  obtain ⟨i1,i2⟩:=keys_putF f v r
  rw [show putF f v ((k,x)::r)=(if k=f then (k,v)::r else (k,x)::putF f v r) from rfl]
  by_cases hk:k=f
  ·rw [if_pos hk]
   subst hk
   exact ⟨by simp,fun g h=>by simpa using h⟩
  ·rw [if_neg hk]
   refine ⟨?_,fun g h=>?_⟩
   ·rw [List.map_cons]
    exact List.mem_cons_of_mem _ i1
   ·rw [List.map_cons] at h ⊢
    rcases List.mem_cons.mp h with e | e
    ·exact List.mem_cons.mpr (.inl e)
    ·exact List.mem_cons_of_mem _ (i2 g e)
theorem length_putF (f:Str) (v:V):∀ fs:List (Str×V),(putF f v fs).length≤fs.length+1
 | []=>by simp [putF]
 | (k,x)::r=>by
  have ih:=length_putF f v r
  rw [show putF f v ((k,x)::r)=(if k=f then (k,v)::r else (k,x)::putF f v r) from rfl]
  by_cases hk:k=f
  ·rw [if_pos hk,List.length_cons,List.length_cons]; omega
  ·rw [if_neg hk,List.length_cons,List.length_cons]; omega
theorem RelO.some_of {v:V} {o:Option Value} (r:RelO (some v) o):∃ u,o=some u∧RelV v u:=by
 cases o with
 | none=>exact (show False from r).elim
 | some u=>exact ⟨u,rfl,r⟩
theorem RelO.none_of {o:Option Value} (r:RelO none o):o=none:=by
 cases o with
 | none=>rfl
 | some u=>exact (show False from r).elim
theorem handed_of {v:V} {u:Value} (r:RelV v u):PySem.W.handedIn u=true:=by
 cases v with
 | non=>cases (show u=Value.none from r); rfl
 | bl b=>cases (show u=Value.bool b from r); rfl
 | int i=>obtain ⟨t,e⟩:=(show ∃ t,u=Value.int i t from r); cases e; rfl
 | str x=>obtain ⟨t,e⟩:=(show ∃ t,u=Value.str x t from r); cases e; rfl
 | byt b=>obtain ⟨t,e⟩:=(show ∃ t,u=Value.bytes b t from r); cases e; rfl
 | flt b=>obtain ⟨t,e⟩:=(show ∃ t,u=Value.float b t from r); cases e; rfl
 | ref a=>cases (show u=Value.ref a from r); rfl
 | ty n=>cases (show u=Value.type n from r); rfl
section
variable {P:Program} {w:World} {H H':Hp} {h h':Heap} {a C dx:Addr} {fs fs':List (Str×V)}
theorem ins_get (hok:HOk P w H h) (e:H a=some (.ins C dx fs)):∃ mA,ObjM h a dx C mA∧(∀ f,RelO (fs.lookup f) (mA f))∧PySem.Within mA (fs.map (·.1))∧fs.length≤1000∧H dx=some (.own a):=by
 obtain ⟨d,z,ne,ob,mA,n,r,q⟩:=(show ObjOk P w H h a (.ins C dx fs) from hok a _ e)
 exact ⟨mA,⟨ob,n,ne⟩,r,q,z,d⟩
end
structure Cls (K:PySem.W.Frag) (C:Addr):Prop where
 pg:PySem.W.plainGet K C Str.empty=true
 hd:PySem.W.hasDictIn K C=true
 po:PySem.W.plainOver K C=true
 sa:PySem.W.findIn K (.ref C) "__setattr__" = some (some (.builtin "object.__setattr__"))
theorem Cls.get {K:PySem.W.Frag} {C:Addr} (c:Cls K C) (f:Str):PySem.W.plainGet K C f=true:=c.pg
def NoAttr (K:PySem.W.Frag) (C:Addr) (f:Str):Prop:=PySem.W.findIn K (.ref C) f=some none
theorem NoAttr.taker {K:PySem.W.Frag} {C:Addr} {f:Str} (n:NoAttr K C f):PySem.W.takerIn K C f=some none:=by
 unfold PySem.W.takerIn
 rw [show PySem.W.findIn K (.ref C) f=some none from n]
 rfl
structure Meth (K:PySem.W.Frag) (C:Addr) (m:Str) (f:Addr):Prop where
 at_:PySem.W.findIn K (.ref C) m=some (some (.ref f))
 fn:PySem.W.isFn K (.ref f)=true
 kp:PySem.W.keepIn K (.ref f)=true
section
variable {X:Cx} {pins:List (Addr×Obj)} {σ:St} {H:Hp} {s:Shared} {a C dx:Addr} {fs:List (Str×V)} {f:Str} {v:V} {A:Around} {E:Value→Shared→Prop}
theorem getattr_ok {b:Bool} {Q:Value→Shared→Prop} (I:Inv X pins σ H s) (e:H a=some (.ins C dx fs)) (c:Cls X.K C) (n:NoAttr X.K C f) (l:fs.lookup f=some v)
  (h:∀ u s',Inv X pins σ H s'→RelV v u→Q u s'):wpAny (model X.prog X.w) A (getAttr (.ref a) f b) Q E s:=by
 obtain ⟨mA,O,r,_,_,_⟩:=ins_get I.hok e
 obtain ⟨u,hu,ru⟩:=RelO.some_of (v:=v) (o:=mA f) (by rw [← l]; exact r f)
 exact get_map I.kIn O (c.get f) c.hd n hu (handed_of ru) (h u _ (I.tok _) ru)
theorem getmeth_ok {m:Str} {g:Addr} {pl:Sem Bool} {Q:Value×List Value→Shared→Prop} (I:Inv X pins σ H s) (e:H a=some (.ins C dx fs)) (c:Cls X.K C) (k:Meth X.K C m g) (l:fs.lookup m=none)
  (h:Q (.ref g,[.ref a]) s):wpAny (model X.prog X.w) A (getMethod (.ref a) m pl) Q E s:=by
 obtain ⟨mA,O,r,_,_,_⟩:=ins_get I.hok e
 have hn:mA m=none:=RelO.none_of (by rw [← l]; exact r m)
 exact get_meth I.kIn O (c.get m) k.at_ k.fn hn h
theorem setattr_ok {y:V} {u:Value} {Q:Unit→Shared→Prop} (I:Inv X pins σ H s) (e:H a=some (.ins C dx fs)) (c:Cls X.K C) (n:NoAttr X.K C f) (hl:fs.length < 1000) (ry:RelV y u)
  (h:∀ s',Inv X pins σ (upd H a (.ins C dx (putF f y fs))) s'→Q () s'):wpAny (model X.prog X.w) A (setAttr (.ref a) f u) Q E s:=by
 obtain ⟨mA,O,r,wi,_,ho⟩:=ins_get I.hok e
 have hz:(fs.map (·.1)).length≤sizeLine:=by rw [List.length_map,sizeLine_eq]; omega
 refine set_map I.kIn O c.sa c.po n.taker c.hd wi hz fun h' O' sb=>h _ ?_
 have hd:∃ o,h'.get? dx=some o:=let ⟨o,_,_,e',_⟩:=O'.ns; ⟨o,e'⟩
 refine I.write (x:=a) (e:=dx) (by rw [e]; exact True.intro) (.inr ho) (fun b q hb z=>(sb.2 b hb).trans z) hd ?_
 refine ⟨by rw [upd_ne O.ne]; exact ho,?_,O.ne,O'.obj,_,O'.ns,fun g=>?_,fun g hg=>?_⟩
 ·have:=length_putF f y fs; omega
 ·show RelO ((putF f y fs).lookup g) (if g=f then some u else mA g)
  rw [lookup_putF]
  by_cases q:g=f
  ·rw [if_pos q,if_pos q]; exact ry
  ·rw [if_neg q,if_neg q]; exact r g
 ·by_cases q:g=f
  ·rw [q]; exact (keys_putF f y fs).1
  ·refine (keys_putF f y fs).2 g (wi g fun z=>hg ?_)
   show (if g=f then some u else mA g)=none
   rw [if_neg q]; exact z
theorem Inv.made (I:Inv X pins σ H s):Inv X pins σ (upd (upd H s.heap.objs.size (.own (s.heap.objs.size+1))) (s.heap.objs.size+1) (.ins C s.heap.objs.size []))
  { s with heap:=(s.heap.push PySem.W.emptyDict).push (PySem.W.instObj C s.heap.objs.size) }:=by
 have e1:(s.heap.push PySem.W.emptyDict).get? s.heap.objs.size=some PySem.W.emptyDict:=Heap.get?_push_size s.heap rfl
 have e2:((s.heap.push PySem.W.emptyDict).push (PySem.W.instObj C s.heap.objs.size)).get? (s.heap.objs.size+1)=some (PySem.W.instObj C s.heap.objs.size):=by
  have:=Heap.get?_push_size (s.heap.push PySem.W.emptyDict) (o:=PySem.W.instObj C s.heap.objs.size) rfl
  rwa [Heap.size_push] at this
 have e3:(s.heap.push PySem.W.emptyDict).Ns s.heap.objs.size (fun _=>none):=⟨PySem.W.emptyDict,#[],_,e1,rfl,(fun e he=>absurd he (by simp)),fun _=>rfl⟩
 have I1:=I.laid (a:=s.heap.objs.size) (o:=.own (s.heap.objs.size+1)) (h':=s.heap.push PySem.W.emptyDict) (t':=s.toks) (fun b u q=>Heap.get?_push_of_some _ q) (Nat.le_refl _) ⟨_,e1⟩
 refine I1.laid (a:=s.heap.objs.size+1) (o:=.ins C s.heap.objs.size []) (t':=s.toks) (fun b u q=>Heap.get?_push_of_some _ q) (Nat.le_of_eq (Heap.size_push _ _)) ?_
 have ne:s.heap.objs.size≠s.heap.objs.size+1:=Nat.ne_of_lt (Nat.lt_succ_self _)
 refine ⟨by rw [upd_ne ne,upd_same],Nat.zero_le _,ne,e2,fun _=>none,(Heap.Ns1.of_empty e3).at fun o q=>Heap.get?_push_of_some _ q,fun _=>True.intro,fun y hy=>absurd rfl hy⟩
theorem attr_of {prog:Program} {w:World} {env:Env} {e:Expr} {f:Str} {pos:Pos} {s:Shared} {Q:Value→Shared→Prop} (hb:attributeBase e f env (eval e env)=eval e env)
  (h:wpAny (model prog w) A (eval e env) (fun o s₁=>wpAny (model prog w) A (getAttr o f true) Q E s₁) E s):wpAny (model prog w) A (eval (.Attribute e f pos) env) Q E s :=
 Attribute_any_ h (by rw [arm_eval_Attribute,hb])
end
def tFld (K:PySem.W.Frag) (ta:TE) (f:Str):TE:=fun σ H Q=>ta σ H fun x H1=>∃ a C dx fs v,x=.ref a∧H1 a=some (.ins C dx fs)∧Cls K C∧NoAttr K C f∧fs.lookup f=some v∧Q v H1
def sFld (K:PySem.W.Frag) (ta tv:TE) (f:Str):TS:=fun D σ H=>tv σ H fun y H1=>ta σ H1 fun x H2=>∃ a C dx fs,x=.ref a∧H2 a=some (.ins C dx fs)∧Cls K C∧NoAttr K C f∧fs.length < 1000 ∧
 D.nx σ (upd H2 a (.ins C dx (putF f y fs)))
section
variable {X:Cx} {o e value:Expr} {f:Str} {pos pos' tpos:Pos} {ta tv:TE}
theorem pe_fld (he:PE X e ta) (hb:attributeBase e f X.env (eval e X.env)=eval e X.env):PE X (.Attribute e f pos) (tFld X.K ta f):=by
 intro pins s σ H Q I h
 refine attr_of hb (thn (he pins s σ H _ I h) fun u s1 ⟨x,H1,I1,rx,a,C,dx,fs,v,ex,ea,c,n,l,q⟩=>?_)
 subst ex
 obtain rfl:u=Value.ref a:=rx
 exact getattr_ok I1 ea c n l fun u' s2 I2 ru=>⟨v,H1,I2,ru,q⟩
theorem ps_fld (ha:PE X o ta) (hv:PE X value tv) (hs:swapsWith value (some (.Attribute o f pos')) pos.line X.env=pure false):PS X (.Assign [.Attribute o f pos'] value pos) (sFld X.K ta tv f):=by
 intro pins s σ H D I h
 refine plainObj_wpAny_Assign_Attribute (thn (hv pins s σ H _ I h) fun u s1 ⟨y,H1,I1,ry,q⟩=>thn (ha pins s1 σ H1 _ I1 q) fun ov s2 ⟨x,H2,I2,rx,a,C,dx,fs,ex,ea,c,n,l,q2⟩=>?_) hs
 subst ex
 obtain rfl:ov=Value.ref a:=rx
 exact setattr_ok I2 ea c n l ry fun s3 I3=>⟨σ,_,I3,q2⟩
end
section
variable {X:Cx} {pins:List (Addr×Obj)} {σ:St} {H:Hp} {s:Shared} {A:Around} {E:Value→Shared→Prop} {Q:Value→Shared→Prop} {c:Value} {b:Bool}
inductive TyOf (K:PySem.W.Frag) (H:Hp):V→Value→Prop where
 | non:TyOf K H .non (.type "NoneType")
 | bl (x:Bool):TyOf K H (.bl x) (.type "bool")
 | int (i:Int):TyOf K H (.int i) (.type "int")
 | str (x:Str):TyOf K H (.str x) (.type "str")
 | flt (x:UInt64):TyOf K H (.flt x) (.type "float")
 | lst {a:Addr} {xs:List V} (e:H a=some (.lst xs)):TyOf K H (.ref a) (.type "list")
 | frz {a:Addr} {o:Obj} {xs:List V} (e:H a=some (.frz o (.lst xs))):TyOf K H (.ref a) (.type "list")
 | tup {a:Addr} {xs:List V} (e:H a=some (.tup xs)):TyOf K H (.ref a) (.type "tuple")
 | dK {a:Addr} {kvs:List (Key×V)} (e:H a=some (.dK kvs)):TyOf K H (.ref a) (.type "dict")
 | dT {a:Addr} {kvs:List (List Key×V)} (e:H a=some (.dT kvs)):TyOf K H (.ref a) (.type "dict")
 | ins {a C dx:Addr} {fs:List (Str×V)} (e:H a=some (.ins C dx fs)) (cl:Cls K C) (ha:PySem.W.findIn K (.ref C) "__class__" = some (some (.builtin "object.__class__")))
   (hn:PySem.W.specialIn K (.builtin "object.__class__") "__get__" = some (some (.builtin "getset_descriptor.__get__"))) (htk:PySem.W.takesIn K (.builtin "object.__class__")=some true)
   (hm:PySem.W.mroIn K C (.type "object")=some true):TyOf K H (.ref a) (.ref C)
theorem isinst_ok {x:V} {u t:Value} (I:Inv X pins σ H s) (rx:RelV x u) (ty:TyOf X.K H x t) (e:PySem.W.kitOne X.K t c=some b) (h:∀ tk,Q (.bool b) { s with toks:=tk }) :
  wpAny (model X.prog X.w) A (call (.builtin "isinstance") [u,c]) Q E s:=by
 cases ty with
 | non=>cases (show u=Value.none from rx); exact PySem.W.kia_one PySem.W.kitx_none I.kIn True.intro e (fun z=>nomatch z) h
 | bl y=>cases (show u=Value.bool y from rx); exact PySem.W.kia_one PySem.W.kitx_bool I.kIn True.intro e (fun z=>nomatch z) h
 | int i=>obtain ⟨t,q⟩:=(show ∃ t,u=Value.int i t from rx); cases q; exact PySem.W.kia_one PySem.W.kitx_int I.kIn True.intro e (fun z=>nomatch z) h
 | str y=>obtain ⟨t,q⟩:=(show ∃ t,u=Value.str y t from rx); cases q; exact PySem.W.kia_one PySem.W.kitx_str I.kIn True.intro e (fun z=>nomatch z) h
 | flt y=>obtain ⟨t,q⟩:=(show ∃ t,u=Value.float y t from rx); cases q; exact PySem.W.kia_one PySem.W.kitx_float I.kIn True.intro e (fun z=>nomatch z) h
 | @lst a xs ea =>
  cases (show u=Value.ref a from rx)
  obtain ⟨_,_,n,_,h1⟩:=(show ObjOk X.prog X.w H s.heap a (.lst xs) from I.hok a _ ea)
  exact PySem.W.kia_one PySem.W.kitx_list I.kIn ⟨_,h1,rfl⟩ e (fun z=>nomatch z) h
 | @frz a ob xs ea =>
  cases (show u=Value.ref a from rx)
  obtain ⟨_,_,_,n,_,h1⟩:=(show ObjOk X.prog X.w H s.heap a (.frz ob (.lst xs)) from I.hok a _ ea)
  exact PySem.W.kia_one PySem.W.kitx_list I.kIn ⟨_,h1,rfl⟩ e (fun z=>nomatch z) h
 | @tup a xs ea =>
  cases (show u=Value.ref a from rx)
  obtain ⟨_,_,_,p⟩:=(show ObjOk X.prog X.w H s.heap a (.tup xs) from I.hok a _ ea)
  obtain ⟨o,h1,h2,_⟩:=p
  exact PySem.W.kia_one PySem.W.kitx_tuple I.kIn ⟨o,h1,h2⟩ e (fun z=>nomatch z) h
 | @dK a kvs ea =>
  cases (show u=Value.ref a from rx)
  obtain ⟨_,_,vs,_,p⟩:=(show ObjOk X.prog X.w H s.heap a (.dK kvs) from I.hok a _ ea)
  obtain ⟨o,es,ep,h1,h2,_⟩:=p
  exact PySem.W.kia_one PySem.W.kitx_dict I.kIn ⟨o,h1,h2.1⟩ e (fun z=>nomatch z) h
 | @dT a kvs ea =>
  cases (show u=Value.ref a from rx)
  obtain ⟨_,_,xs,_,o,es,ep,h1,h2,_⟩:=(show ObjOk X.prog X.w H s.heap a (.dT kvs) from I.hok a _ ea)
  exact PySem.W.kia_one PySem.W.kitx_dict I.kIn ⟨o,h1,h2.1⟩ e (fun z=>nomatch z) h
 | @ins a C dx fs ea cl ha hn htk hm =>
  cases (show u=Value.ref a from rx)
  obtain ⟨mA,O,_⟩:=ins_get I.hok ea
  obtain ⟨od,J,_⟩:=O.look
  exact PySem.W.kia_one (PySem.W.kitx_own (cl.get _) cl.hd ha hn htk hm) I.kIn J e (fun z=>nomatch z) h
end
structure Room (k:Nat) (A:Around):Prop where
 hd:A.handled=none
 dp:A.depth+3*k+5 < recursionLimit
 un:A.units+16*k+200 < cLine
theorem Room.mono {j k:Nat} {A:Around} (r:Room k A) (h:j≤k):Room j A:=⟨r.hd,by have:=r.dp; omega,by have:=r.un; omega⟩
theorem Room.deeper {k:Nat} {A:Around} (r:Room (k+1) A) (env:Env):Room k (A.deeper env) :=
 ⟨r.hd,by have:=r.dp; show A.depth+1+3*k+5 < _; omega,by have:=r.un; show A.units+3+16*k+200 < _; omega⟩
theorem make_depth {A:Around} {C:Addr} {us:List Value} {kw:List (Str×Value)}:(A.under (.builtin "type.__call__" ⟨.ref C::us,kw⟩)).depth=A.depth+1:=by
 first | rfl | simp [Around.under,Code.weight,Code.isCreation,Code.isGuard,Code.isCaller,Code.frames,Code.isFrame,guardIds]
theorem make_units {A:Around} {C:Addr} {us:List Value} {kw:List (Str×Value)}:(A.under (.builtin "type.__call__" ⟨.ref C::us,kw⟩)).units=A.units+1:=by
 first | rfl | simp [Around.under,Code.cUnits,Code.frames,Code.isFrame]
theorem Room.make {k:Nat} {A:Around} (r:Room (k+1) A) (C:Addr) (us:List Value) (kw:List (Str×Value)):Room k (A.under (.builtin "type.__call__" ⟨.ref C::us,kw⟩)) :=
 ⟨r.hd,by have:=r.dp; rw [make_depth]; omega,by have:=r.un; rw [make_units]; omega⟩
theorem Room.depth {k:Nat} {A:Around} (r:Room k A):A.depth < recursionLimit:=by have:=r.dp; omega
def tNil:TA:=fun _ H Q=>Q [] H
def tCons (ta:TE) (tr:TA):TA:=fun σ H Q=>ta σ H fun x H1=>tr σ H1 fun xs H2=>Q (x::xs) H2
section
variable {X:Cx} {e:Expr} {es:List Expr} {te:TE} {t:TA} {pos:Pos}
theorem pa_nil:PA X [] tNil:=fun _ _ _ _ H Q I h=>Calls.spliced_nil ⟨[],H,I,.nil,h⟩
theorem pa_cons (ha:PE X e te) (hr:PA X es t) (hs:starEach (e::es) X.env=(false,eval e X.env)::starEach es X.env:=by rfl):PA X (e::es) (tCons te t):=by
 intro pos pins s σ H Q I h
 rw [hs]
 show wpAny _ _ (spliced ((false,eval e X.env)::backTo pos (starEach es X.env))) _ _ s
 refine Calls.spliced_cons (thn (ha pins s σ H _ I h) fun u s1 ⟨x,H1,I1,r1,q1⟩=>?_)
 exact thn (hr pos pins s1 σ H1 _ I1 q1) fun us s2 ⟨xs,H2,I2,r2,q2⟩=>⟨x::xs,H2,I2,.cons r1 r2,q2⟩
def tTup (t:TA):TE:=fun σ H Q=>t σ H fun xs H1=>xs.length≤sizeLine∧∀ p,H1 p=none→Q (.ref p) (upd H1 p (.tup xs))
def tLst (t:TA):TE:=fun σ H Q=>t σ H fun xs H1=>xs.length≤sizeLine∧∀ p,H1 p=none→Q (.ref p) (upd H1 p (.lst xs))
theorem pe_tup {x1} (h:PA X es t):PE X (.Tuple es x1 pos) (tTup t):=by
 intro pins s σ H Q I hq
 refine wpAny_Tuple_spliced (thn (h pos pins s σ H _ I hq) fun us s1 ⟨xs,H1,I1,r,z,q⟩=>⟨by rw [← r.length]; exact z,?_⟩)
 have hf:H1 s1.heap.objs.size=none:=I1.hok.fresh (Nat.le_refl _)
 refine ⟨.ref s1.heap.objs.size,upd H1 s1.heap.objs.size (.tup xs),I1.laid (t':=s1.toks) (fun b u e=>Heap.get?_push_of_some _ e) (Nat.le_refl _) ?_,rfl,q _ hf⟩
 exact ⟨z,us,r,⟨_,Heap.get?_push_size _ rfl,rfl,_,rfl⟩⟩
theorem pe_lst (h:PA X es t):PE X (.List es pos) (tLst t):=by
 intro pins s σ H Q I hq
 refine wpAny_List_spliced (thn (h pos pins s σ H _ I hq) fun us s1 ⟨xs,H1,I1,r,z,q⟩=>⟨by rw [← r.length]; exact z,?_⟩)
 have hf:H1 s1.heap.objs.size=none:=I1.hok.fresh (Nat.le_refl _)
 refine ⟨.ref s1.heap.objs.size,upd H1 s1.heap.objs.size (.lst xs),I1.laid (t':=s1.toks) (fun b u e=>Heap.get?_push_of_some _ e) (Nat.le_refl _) ?_,rfl,q _ hf⟩
 exact ⟨z,us,0,r,Heap.get?_push_size _ rfl⟩
end
abbrev Sp:=List V→Hp→VK→XK→Prop
abbrev CXT:=List Env→Hp→Shared→XK→Value→Shared→Prop
structure Env0 (P:Program) (w:World) (K:PySem.W.Frag) (mg:Str→Option Value) (base:Heap) (A:Around) (outer:List Env) (s:Shared) (H:Hp):Prop where
 frames:A.frames=some outer
 mod:Mod K mg base
 bs:∀ b o,base.get? b=some o→s.heap.get? b=some o∧H b=none
 bsz:base.objs.size≤s.heap.objs.size
 funs:s.heap.FunFrames base outer
 frf:∀ b∈frs outer,H b=none
 hok:HOk P w H s.heap
 bare:AllBare s.gens
def CE (outer:List Env) (P:Program) (w:World) (H:Hp) (s:Shared) (Q:VK) (u:Value) (s':Shared):Prop :=
 ∃ v H',s'.os=s.os∧AllBare s'.gens∧Un (frs outer) [] H H' s.heap s'.heap∧HOk P w H' s'.heap∧RelV v u∧Q v H'
def CR (CX:CXT) (outer:List Env) (P:Program) (w:World) (H:Hp) (s:Shared) (Q:VK) (E:XK) (r:Result) (s':Shared):Prop :=
 match r with
 | .ok (.ret u)=>CE outer P w H s Q u s'
 | .ok _=>False
 | .error e=>CX outer H s E e s'
structure FnOk (P:Program) (w:World) (K:PySem.W.Frag) (mg:Str→Option Value) (base:Heap) (CX:CXT) (k:Nat) (f:Addr) (fd:FuncData) (ps:List Str) (sp:Sp):Prop where
 len:∀ vs H Q E,sp vs H Q E→vs.length=ps.length
 run:∀ (A:Around) (outer:List Env) (s:Shared) (H:Hp) (args:Args) (us:List Value) (vs:List V) (Q:VK) (E:XK),Room k A→Env0 P w K mg base A outer s H→BindsTo s fd args (ps.zip us)→Vals vs us→sp vs H Q E →
  codeAny (model P w) A (.call (.ref f) args) (CR CX outer P w H s Q E) s
theorem FnOk.imp {P:Program} {w:World} {K:PySem.W.Frag} {mg:Str→Option Value} {base:Heap} {CX:CXT} {k:Nat} {f:Addr} {fd:FuncData} {ps:List Str} {sp sp':Sp} (F:FnOk P w K mg base CX k f fd ps sp)
  (h:∀ vs H Q E,sp' vs H Q E→sp vs H Q E):FnOk P w K mg base CX k f fd ps sp' :=
 ⟨fun vs H Q E q=>F.len vs H Q E (h _ _ _ _ q),fun A outer s H args us vs Q E hr he hb hv hs=>F.run A outer s H args us vs Q E hr he hb hv (h _ _ _ _ hs)⟩
theorem Env0.make {P:Program} {w:World} {K:PySem.W.Frag} {mg:Str→Option Value} {base:Heap} {A:Around} {outer:List Env} {s:Shared} {H:Hp} (e:Env0 P w K mg base A outer s H) (C:Addr) (us:List Value) (kw:List (Str×Value)) :
  Env0 P w K mg base (A.under (.builtin "type.__call__" ⟨.ref C::us,kw⟩)) outer s H:=⟨by first | exact e.frames | (simpa [Around.under,Code.envs,Code.isFrame,pushEnvs] using e.frames),e.mod,e.bs,e.bsz,e.funs,e.frf,e.hok,e.bare⟩
section
variable {X:Cx} {pins:List (Addr×Obj)} {σ:St} {H:Hp} {s s':Shared}
theorem Inv.env0 (I:Inv X pins σ H s):Env0 X.prog X.w X.K X.mg X.base X.A X.stack s H :=
 ⟨I.ok.frames,I.ok.mod,I.bs,Nat.le_trans I.ok.bsz I.sz,I.stack,I.stkFree,I.hok,I.bare⟩
theorem Inv.after {Q:VK} {u:Value} (I:Inv X pins σ H s) (h:CE X.stack X.prog X.w H s Q u s'):EP X pins σ Q u s':=by
 obtain ⟨v,H',os,bare,un,hok,r,q⟩:=h
 obtain ⟨hh,g,d,t,os'⟩:=s'
 obtain rfl:os'=s.os:=os
 exact ⟨v,H',I.call (h':=hh) (g':=g) (d':=d) (t':=t) (ch:=[]) un hok bare (fun b z=>absurd z (by simp)),r,q⟩
end
def tCall (sp:Sp) (dvs:List V) (E:XK) (t:TA):TE:=fun σ H Q=>t σ H fun vs H1=>sp (vs++dvs) H1 Q E
def tMeth (C:Addr) (m:Str) (sp:Sp) (dvs:List V) (E:XK) (ta:TE) (t:TA):TE:=fun σ H Q=>ta σ H fun x H1=>∃ a dx fs,x=.ref a∧H1 a=some (.ins C dx fs)∧fs.lookup m=none ∧
 t σ H1 fun vs H2=>sp (x::(vs++dvs)) H2 Q E
def tMake (C:Addr) (sp:Sp) (dvs:List V) (E:XK) (t:TA):TE:=fun σ H Q=>t σ H fun vs H1=>∀ x dx,H1 x=none→H1 dx=none→dx≠x →
 sp (.ref x::(vs++dvs)) (upd (upd H1 dx (.own x)) x (.ins C dx [])) (fun v H2=>v=.non∧Q (.ref x) H2) E
def Binds (K:PySem.W.Frag) (fd:FuncData) (ps:List Str) (ds:List Value):Prop :=
 ∀ (s:Shared) (us:List Value),K.In s.heap→(us++ds).length=ps.length→BindsTo s fd ⟨us,[]⟩ (ps.zip (us++ds))
theorem Binds.all {K:PySem.W.Frag} {fd:FuncData} {ps:List Str} (h:∀ us:List Value,us.length=ps.length→bindArgs fd ⟨us,[]⟩=pure (ps.zip us)):Binds K fd ps []:=fun s us _ hl=>by
 rw [List.append_nil] at hl ⊢
 exact .of_eq (h us hl)
def Passes (CX:CXT) (X:Cx) (E:XK):Prop:=∀ (pins:List (Addr×Obj)) (σ:St) (H:Hp) (s:Shared) (e:Value) (s':Shared),Inv X pins σ H s→CX X.stack H s E e s'→X.xe e s'
section
variable {X:Cx} {CX:CXT} {k:Nat} {f C:Addr} {fd:FuncData} {ps:List Str} {sp:Sp} {dvs:List V} {ds:List Value} {E:XK} {x m:Str} {p pos apos:Pos} {e o:Expr} {es:List Expr} {ta:TE} {t:TA}
theorem run_fn {pins:List (Addr×Obj)} {σ:St} {H:Hp} {s:Shared} {Q:VK} {us:List Value} {vs:List V} (F:FnOk X.prog X.w X.K X.mg X.base CX k f fd ps sp) (hr:Room k X.A) (hb:Binds X.K fd ps ds) (hd:Vals dvs ds) (hx:Passes CX X E)
  (I:Inv X pins σ H s) (r:Vals vs us) (h:sp (vs++dvs) H Q E):wpAny (model X.prog X.w) X.A (call (.ref f) us) (EP X pins σ Q) X.xe s:=by
 have r2:Vals (vs++dvs) (us++ds):=r.append hd
 have hl:(us++ds).length=ps.length:=by rw [← r2.length]; exact F.len _ _ _ _ h
 refine wpAny_call (codeAny_mono (F.run X.A X.stack s H ⟨us,[]⟩ (us++ds) (vs++dvs) Q E hr I.env0 (hb s us I.kIn hl) r2 h) fun r s' hq=>?_)
 cases r with
 | error e=>exact hx pins σ H s e s' I hq
 | ok fl =>
  cases fl with
  | ret u=>exact I.after hq
  | next=>exact False.elim hq
  | brk=>exact False.elim hq
  | cont=>exact False.elim hq
theorem pe_call (F:FnOk X.prog X.w X.K X.mg X.base CX k f fd ps sp) (hr:Room k X.A) (hg:Gl X x) (hm:X.mg x=some (.ref f)) (hk:PySem.W.keepIn X.K (.ref f)=true) (hb:Binds X.K fd ps ds) (hd:Vals dvs ds) (hx:Passes CX X E)
  (ha:PA X (e::es) t) (hdb:(x == ("__debug__" : Str))=false:=by decide) (he:starEach (e::es) X.env=(false,eval e X.env)::starEach es X.env:=by rfl) (hpl:(backTo pos (starEach es X.env)).any (·.1)=false:=by rfl) :
  PE X (.Call (.Name x p) (e::es) [] pos) (tCall sp dvs E t):=by
 intro pins s σ H Q I h
 refine wpAny_Call_Name_kw (ld_glob I hg hm ?_ hdb)
 refine PySem.W.callWith_K (h₀:=X.base) I.ok.mod.kin hk (thn (ha pos pins s σ H _ I h) fun us s1 ⟨vs,H1,I1,r,q⟩=>⟨I1.kIn,?_⟩) he hpl
 exact run_fn F hr hb hd hx I1 r q
theorem pe_meth {pl:Sem Bool} (he:PE X o ta) (c:Cls X.K C) (hm:Meth X.K C m f) (F:FnOk X.prog X.w X.K X.mg X.base CX k f fd ps sp) (hr:Room k X.A) (hb:Binds X.K fd ps ds) (hd:Vals dvs ds) (hx:Passes CX X E) (ha:PA X (e::es) t)
  (hst:starEach (e::es) X.env=(false,eval e X.env)::starEach es X.env:=by rfl) (hpl:(backTo pos (starEach es X.env)).any (·.1)=false:=by rfl)
  (ht:eval (.Call (.Attribute o m apos) (e::es) [] pos) X.env=(do
   let ov ← eval o X.env
   standAt apos.atName
   let (f,first) ← holding [ov] (getMethod ov m pl)
   callWith pos f first (backTo pos (starEach (e::es) X.env)) (backToKw pos (keywordEach [] X.env))):=by rfl) :
  PE X (.Call (.Attribute o m apos) (e::es) [] pos) (tMeth C m sp dvs E ta t):=by
 intro pins s σ H Q I h
 refine PySem.W.methodCall_KW (pl:=pl) (thn (he pins s σ H _ I h) fun u s1 ⟨x,H1,I1,rx,a,dx,fs,ex,ea,l,q⟩=>?_) ht
 subst ex
 obtain rfl:u=Value.ref a:=rx
 refine getmeth_ok I1 ea c hm l ?_
 refine PySem.W.callWith_K (first:=[.ref a]) (h₀:=X.base) I.ok.mod.kin hm.kp (thn (ha pos pins s1 σ H1 _ I1 q) fun us s2 ⟨vs,H2,I2,r,q2⟩=>⟨I2.kIn,?_⟩) hst hpl
 exact run_fn (us:=.ref a::us) (vs:=.ref a::vs) F hr hb hd hx I2 (.cons rfl r) q2
theorem pe_meth0 {pl:Sem Bool} (he:PE X o ta) (c:Cls X.K C) (hm:Meth X.K C m f) (F:FnOk X.prog X.w X.K X.mg X.base CX k f fd ps sp) (hr:Room k X.A) (hb:Binds X.K fd ps ds) (hd:Vals dvs ds) (hx:Passes CX X E)
  (ht:eval (.Call (.Attribute o m apos) [] [] pos) X.env=(do
   let ov ← eval o X.env
   standAt apos.atName
   let (f,first) ← holding [ov] (getMethod ov m pl)
   callWith pos f first (backTo pos (starEach [] X.env)) (backToKw pos (keywordEach [] X.env))):=by rfl) :
  PE X (.Call (.Attribute o m apos) [] [] pos) (tMeth C m sp dvs E ta tNil):=by
 intro pins s σ H Q I h
 refine PySem.W.methodCall_KW (pl:=pl) (thn (he pins s σ H _ I h) fun u s1 ⟨x,H1,I1,rx,a,dx,fs,ex,ea,l,q⟩=>?_) ht
 subst ex
 obtain rfl:u=Value.ref a:=rx
 refine getmeth_ok I1 ea c hm l ?_
 exact PySem.W.callWith_K0 (first:=[.ref a]) I1.kIn hm.kp (run_fn (us:=[.ref a]) (vs:=[.ref a]) F hr hb hd hx I1 (.cons rfl .nil) q)
structure Mk (K:PySem.W.Frag) (C f:Addr):Prop where
 makes:PySem.W.makesIn K C=true
 init:PySem.W.findIn K (.ref C) "__init__" = some (some (.ref f))
 fn:PySem.W.isFn K (.ref f)=true
 kp:PySem.W.keepIn K (.ref C)=true
theorem run_make {pins:List (Addr×Obj)} {σ:St} {H:Hp} {s:Shared} {Q:VK} {us:List Value} {vs:List V} (M:Mk X.K C f) (F:FnOk X.prog X.w X.K X.mg X.base CX k f fd ps sp) (hr:Room (k+1) X.A) (hb:Binds X.K fd ps ds) (hd:Vals dvs ds)
  (hx:Passes CX X E) (I:Inv X pins σ H s) (r:Vals vs us)
  (h:∀ x dx,H x=none→H dx=none→dx≠x→sp (.ref x::(vs++dvs)) (upd (upd H dx (.own x)) x (.ins C dx [])) (fun v H2=>v=.non∧Q (.ref x) H2) E) :
  wpAny (model X.prog X.w) X.A (call (.ref C) us) (EP X pins σ Q) X.xe s:=by
 have hq:=h (s.heap.objs.size+1) s.heap.objs.size (I.hok.fresh (Nat.le_succ _)) (I.hok.fresh (Nat.le_refl _)) (Nat.ne_of_lt (Nat.lt_succ_self _))
 have I2:=Inv.made (C:=C) I
 have r2:Vals (V.ref (s.heap.objs.size+1)::(vs++dvs)) (Value.ref (s.heap.objs.size+1)::(us++ds)):=.cons rfl (r.append hd)
 have hl:(Value.ref (s.heap.objs.size+1)::us++ds).length=ps.length:=by
  have e:=r2.length
  rw [F.len _ _ _ _ hq] at e
  exact e.symm
 refine wpAny_call (make_map (f:=f) I.kIn M.makes M.init (beq_iff_eq.mp M.fn) (codeAny_mono (F.run _ X.stack _ _ ⟨Value.ref (s.heap.objs.size+1)::us,[]⟩ (Value.ref (s.heap.objs.size+1)::(us++ds)) _ _ E (hr.make C us [])
  (I2.env0.make C us []) (hb _ (Value.ref (s.heap.objs.size+1)::us) I2.kIn hl) r2 hq) fun r s' hq'=>?_))
 cases r with
 | error e=>exact hx pins σ _ _ e s' I2 hq'
 | ok fl =>
  cases fl with
  | ret u =>
   obtain ⟨v,H',I3,rv,ev,q3⟩:=I2.after hq'
   subst ev
   exact ⟨rv,⟨V.ref (s.heap.objs.size+1),H',I3,rfl,q3⟩⟩
  | next=>exact False.elim hq'
  | brk=>exact False.elim hq'
  | cont=>exact False.elim hq'
theorem pe_make (M:Mk X.K C f) (F:FnOk X.prog X.w X.K X.mg X.base CX k f fd ps sp) (hr:Room (k+1) X.A) (hg:Gl X x) (hm:X.mg x=some (.ref C)) (hb:Binds X.K fd ps ds) (hd:Vals dvs ds) (hx:Passes CX X E)
  (ha:PA X (e::es) t) (hdb:(x == ("__debug__" : Str))=false:=by decide) (he:starEach (e::es) X.env=(false,eval e X.env)::starEach es X.env:=by rfl) (hpl:(backTo pos (starEach es X.env)).any (·.1)=false:=by rfl) :
  PE X (.Call (.Name x p) (e::es) [] pos) (tMake C sp dvs E t):=by
 intro pins s σ H Q I h
 refine wpAny_Call_Name_kw (ld_glob I hg hm ?_ hdb)
 refine PySem.W.callWith_K (h₀:=X.base) I.ok.mod.kin M.kp (thn (ha pos pins s σ H _ I h) fun us s1 ⟨vs,H1,I1,r,q⟩=>⟨I1.kIn,?_⟩) he hpl
 exact run_make M F hr hb hd hx I1 r q
end
section
variable {X:Cx} {CX:CXT} {k:Nat} {f C:Addr} {fd:FuncData} {ps ks:List Str} {sp:Sp} {E:XK} {x m:Str} {p pos apos kpos:Pos} {e o:Expr} {es:List Expr} {kws:List Keyword} {te ta:TE} {t tk:TA} {nm:Option Str}
variable {g:List Value→List Value→List Value} {gV:List V→List V→List V}
end
structure FnScope (N P:List Str) (sc:Scope):Prop where
 kind:sc.kind=.function
 co:sc.isCoroutine=false
 gen:sc.isGenerator=false
 nd:N.Nodup
 pre:N.take P.length=P
 par:∀ x∈P,sc.names.lookup x=some .local∨sc.names.lookup x=some .cell
 nofree:∀ y∈sc.names,y.2≠.free
theorem bindL_out {kindOf:Str→Option NameKind} {x:Str}:∀ {binds:List (Str×Value)} {m:Str→Option Value},(∀ v,(x,v) ∉ binds)→bindL kindOf binds m x=m x
 | [],_,_=>rfl
 | (n,v)::r,m,h=>by
  unfold bindL
  rw [bindL_out fun w hw=>h w (List.mem_cons_of_mem _ hw)]
  split
  ·have:x≠n:=by rintro rfl; exact h v List.mem_cons_self
   simp [this]
  ·rfl
theorem bindC_out {kindOf:Str→Option NameKind} {x:Str}:∀ {binds:List (Str×Value)} {m:Str→Option Value},(∀ v,(x,v) ∉ binds)→bindC kindOf binds m x=m x
 | [],_,_=>rfl
 | (n,v)::r,m,h=>by
  unfold bindC
  rw [bindC_out fun w hw=>h w (List.mem_cons_of_mem _ hw)]
  split
  ·rfl
  ·have:x≠n:=by rintro rfl; exact h v List.mem_cons_self
   simp [this]
theorem bindL_get {kindOf:Str→Option NameKind} {x:Str} {v:Value}:∀ {P:List Str} {vs:List Value} {i:Nat} {m:Str→Option Value},P.Nodup→P[i]?=some x→vs[i]?=some v→kindOf x=some .local →
  bindL kindOf (P.zip vs) m x=some v
 | [],_,_,_,_,h,_,_=>by simp at h
 | _::_,[],_,_,_,_,h,_=>by simp at h
 | p::P,w::vs,0,m,nd,h1,h2,hk=>by
  simp at h1 h2; subst h1; subst h2
  show bindL kindOf ((p,w)::P.zip vs) m p=_
  unfold bindL
  rw [bindL_out fun v hv=>(List.nodup_cons.mp nd).1 (List.of_mem_zip hv).1,if_pos hk]
  simp
 | p::P,w::vs,i+1,m,nd,h1,h2,hk=>by
  show bindL kindOf ((p,w)::P.zip vs) m x=_
  unfold bindL
  exact bindL_get (i:=i) (List.nodup_cons.mp nd).2 (by simpa using h1) (by simpa using h2) hk
theorem bindC_get {kindOf:Str→Option NameKind} {x:Str} {v:Value}:∀ {P:List Str} {vs:List Value} {i:Nat} {m:Str→Option Value},P.Nodup→P[i]?=some x→vs[i]?=some v→kindOf x≠some .local →
  bindC kindOf (P.zip vs) m x=some v
 | [],_,_,_,_,h,_,_=>by simp at h
 | _::_,[],_,_,_,_,h,_=>by simp at h
 | p::P,w::vs,0,m,nd,h1,h2,hk=>by
  simp at h1 h2; subst h1; subst h2
  show bindC kindOf ((p,w)::P.zip vs) m p=_
  unfold bindC
  rw [bindC_out fun v hv=>(List.nodup_cons.mp nd).1 (List.of_mem_zip hv).1,if_neg hk]
  simp
 | p::P,w::vs,i+1,m,nd,h1,h2,hk=>by
  show bindC kindOf ((p,w)::P.zip vs) m x=_
  unfold bindC
  exact bindC_get (i:=i) (List.nodup_cons.mp nd).2 (by simpa using h1) (by simpa using h2) hk
noncomputable def start (N:List Str) (vs:List V):St:=vs.map some++List.replicate (N.length - vs.length) none
noncomputable def cxOf (CX:CXT) (P:Program) (w:World) (K:PySem.W.Frag) (mg:Str→Option Value) (base:Heap) (N:List Str) (qual:Str) (scope:Scope) (f:Addr) (cd:Value) (A:Around) (outer:List Env) (s:Shared) (H:Hp) (E:XK):Cx where
 prog:=P
 w:=w
 K:=K
 mg:=mg
 base:=base
 A:=A.deeper (envOfC qual scope s.heap.objs.size f cd)
 N:=N
 s₀:=s
 H₀:=H
 env:=envOfC qual scope s.heap.objs.size f cd
 outer:=outer
 stack:=envOfC qual scope s.heap.objs.size f cd::outer
 ex:=[]
 calm:=true
 fn:=fun _=>true
 pn:=[]
 xe:=fun e s'=>wpAny (model P w) (A.deeper (envOfC qual scope s.heap.objs.size f cd)) (leaving (envOfC qual scope s.heap.objs.size f cd) e) (fun _ s''=>CX outer H s E e s'') (fun e' s''=>CX outer H s E e' s'') s'
theorem cell_has {sc:Scope} {n:Nat} {x:Str} (h:sc.names.lookup x=some .cell):∃ c,(cellsFrom n sc.names []).lookup x=some c:=by
 have q:=PySem.W.cellsFrom_some sc.names n [] (.inl h)
 exact Option.isSome_iff_exists.mp q
theorem inv_start {CX:CXT} {P:Program} {w:World} {K:PySem.W.Frag} {mg:Str→Option Value} {base:Heap} {N ps:List Str} {qual:Str} {scope:Scope} {f:Addr} {cd:Value} {A:Around} {outer:List Env} {s s1:Shared} {H:Hp} {E:XK} {us:List Value} {vs:List V}
  (S:FnScope N ps scope) (hd:A.handled=none) (e0:Env0 P w K mg base A outer s H) (hl:vs.length=ps.length) (r:Vals vs us)
  (x:InCallC s s.heap.objs.size (bindL (envOfC qual scope s.heap.objs.size f cd).kindOf (ps.zip us) fun _=>none) (cellsFrom (s.heap.objs.size+1) scope.names []) (bindC (envOfC qual scope s.heap.objs.size f cd).kindOf (ps.zip us) fun _=>none) s1) :
  Inv (cxOf CX P w K mg base N qual scope f cd A outer s H E) [] (start N vs) H s1:=by
 have hpl:ps.length≤N.length:=by have:=congrArg List.length S.pre; rw [List.length_take] at this; omega
 obtain ⟨h1,tk,rfl,hk⟩:=x.done
 have noA:∀ b:Addr,b ∉ (cxOf CX P w K mg base N qual scope f cd A outer s H E).ex:=fun b z=>absurd (show b∈([]:List Addr) from z) (by simp)
 refine ⟨⟨e0.mod,S.kind,rfl,rfl,Nat.le_refl _,fun y z c h1 h2=>?_,fun y hy=>?_,fun y c _ h=>?_,fun _=>hd,Around.frames_deeper e0.frames,.inr ⟨rfl,rfl⟩,fun b z=>absurd z (noA b),e0.bs,e0.bsz,fun b _ _=>noA b,fun b z=>absurd z (noA b),e0.funs,e0.frf⟩,
  rfl,e0.bare,Un.kept hk,⟨_,x.toInCall.ns,fun i y v h1 h2 h3=>?_⟩,fun y c h=>⟨_,x.cell y c h⟩,e0.hok.fresh (Nat.le_refl _),fun y c h=>?_,fun p hp=>absurd (show p∈([]:List (Addr×Obj)) from hp) (by simp),e0.hok.kept hk,?_⟩
 ·exact name_of_addr x.apart (PySem.mem_of_lookup h1) (PySem.mem_of_lookup h2)
 ·have hy:scope.names.lookup y=some .cell∨scope.names.lookup y=some .free:=hy
  rcases hy with hy | hy
  ·exact cell_has hy
  ·exact absurd rfl (S.nofree _ (PySem.mem_of_lookup hy))
 ·exact Nat.le_of_lt (x.above y c (PySem.mem_of_lookup h))
 ·have hi:i < vs.length:=by
   unfold start at h2
   by_cases hi:i < vs.length
   ·exact hi
   ·rw [List.getElem?_append_right (by simpa using hi)] at h2
    rw [List.getElem?_replicate] at h2
    split at h2 <;> cases h2
  have ha:vs[i]?=some v:=by
   unfold start at h2
   rw [List.getElem?_append_left (by simpa using hi),List.getElem?_map] at h2
   cases e:vs[i]? with
   | none=>rw [e] at h2; cases h2
   | some a=>rw [e] at h2; cases h2; rfl
  obtain ⟨u,hu,rv⟩:=r.get ha
  have hp:ps[i]?=some y:=by
   rw [← S.pre,List.getElem?_take_of_lt (by omega)]; exact h1
  have ndP:ps.Nodup:=by rw [← S.pre]; exact S.nd.sublist (List.take_sublist _ _)
  refine ⟨u,rv,?_⟩
  rcases S.par y (List.mem_of_getElem? hp) with k | k
  ·exact .inl ⟨k,bindL_get ndP hp hu k⟩
  ·obtain ⟨c,e⟩:=cell_has (n:=s.heap.objs.size+1) k
   refine .inr ⟨.inl k,c,e,?_⟩
   have q:=x.cell y c e
   rw [bindC_get ndP hp hu (by show scope.names.lookup y≠_; rw [k]; decide)] at q
   exact q
 ·exact e0.hok.fresh (Nat.le_of_lt (x.above y c (PySem.mem_of_lookup h)))
 ·unfold start
  show _=N.length
  rw [List.length_append,List.length_map,List.length_replicate]
  omega
theorem fn_of {CX:CXT} {P:Program} {w:World} {K:PySem.W.Frag} {mg:Str→Option Value} {base:Heap} {k:Nat} {f:Addr} {name qual:Str} {params:Arguments} {body:List Stmt} {scope:Scope} {dV kV doc pm cdv ct oc:Value} {an od:Option Addr}
  {osl:Array (Option Value)} {N ps:List Str} {sp:Sp} (lk:K.lookup f=some ⟨oc,od,.func (PySem.W.fnOf name qual params body scope dV kV doc pm an cdv ct),osl⟩) (hcd:PySem.W.codeIn K cdv qual=true) (S:FnScope N ps scope)
  (len:∀ vs H Q E,sp vs H Q E→vs.length=ps.length)
  (hbody:∀ (A:Around) (outer:List Env) (s:Shared) (H:Hp) (vs:List V) (Q:VK) (E:XK),Room k (A.deeper (envOfC qual scope s.heap.objs.size f cdv))→sp vs H Q E →
   ∃ t,PSs (cxOf CX P w K mg base N qual scope f cdv A outer s H E) body t∧t { nx:=fun _ H'=>Q .non H',rt:=Q } (start N vs) H) :
  FnOk P w K mg base CX (k+1) f (PySem.W.fnOf name qual params body scope dV kV doc pm an cdv ct) ps sp:=by
 refine ⟨len,fun A outer s H args us vs Q E hr e0 hb r hsp=>?_⟩
 have hl:=len _ _ _ _ hsp
 have KX:K.In s.heap:=e0.mod.kin.keeps fun b o e=>(e0.bs b o e).1
 have lim:s.heap.NoLimit:=e0.mod.nolimit.keeps fun b o e=>(e0.bs b o e).1
 have hkind:∀ y∈ps.zip us,scope.names.lookup y.1=some .local∨(scope.names.lookup y.1=some .cell∧((cellsFrom (s.heap.objs.size+1) scope.names []).lookup y.1).isSome=true):=fun ⟨n,v⟩ hy=>by
  rcases S.par n (List.of_mem_zip hy).1 with q | q
  ·exact .inl q
  ·exact .inr ⟨q,PySem.W.cellsFrom_some _ _ _ (.inl q)⟩
 refine codeAny_call_function hr.depth (KX _ _ lk) rfl S.co S.gen rfl (PySem.W.codeRec_of KX hcd) (hb _ _ _ _ ?_)
 refine wpAny_newFunctionEnv_cells S.kind hkind fun env he s1 x=>?_
 subst he
 refine ⟨lim.keeps x.toInCall.keep,codeAny_func ?_⟩
 obtain ⟨t,ht,hq⟩:=hbody A outer s H vs Q E (hr.deeper _) hsp
 have I:Inv (cxOf CX P w K mg base N qual scope f cdv A outer s H E) [] (start N vs) H s1:=inv_start S hr.hd e0 hl r x
 refine wpAny_mono (ht [] s1 (start N vs) H _ I hq) (fun fl s' hs=>?_) fun e s' hs=>hs
 have fin:∀ {σ':St} {H':Hp} {v:V} {u:Value},Inv (cxOf CX P w K mg base N qual scope f cdv A outer s H E) [] σ' H' s'→RelV v u→Q v H'→CE outer P w H s Q u s' :=
  fun {σ' H' v u} J rv q=>⟨v,H',J.os,J.bare,J.base,J.hok,rv,q⟩
 cases fl with
 | ret u =>
  obtain ⟨v,σ',H',J,rv,q⟩:=hs
  exact fin J rv q
 | next =>
  obtain ⟨σ',H',J,q⟩:=hs
  exact fin (v:=V.non) (u:=Value.none) J rfl q
 | brk =>
  obtain ⟨_,_,_,q⟩:=hs
  exact False.elim q
 | cont =>
  obtain ⟨_,_,_,q⟩:=hs
  exact False.elim q
section
variable {X:Cx} {x:Str} {p pos:Pos} {e:Expr} {es:List Expr} {t:TA} {id T:String} {r:List V→Hp→VK→Prop}
def tCB (r:List V→Hp→VK→Prop) (t:TA):TE:=fun σ H Q=>t σ H fun vs H1=>r vs H1 Q
theorem pe_callB (hc:CallR X (.builtin id) r) (hg:Gl X x) (hm:X.mg x=none) (hv:bootBuiltins x=some (.builtin id)) (ha:PA X (e::es) t) (hn:x ≠ "__name__" := by decide) (hdb:(x == ("__debug__" : Str))=false:=by decide)
  (he:starEach (e::es) X.env=(false,eval e X.env)::starEach es X.env:=by rfl) (hpl:(backTo pos (starEach es X.env)).any (·.1)=false:=by rfl):PE X (.Call (.Name x p) (e::es) [] pos) (tCB r t):=by
 intro pins s σ H Q I h
 refine wpAny_Call_Name_kw (ld_blt I hg hm hv ?_ hn hdb)
 exact PyProof.Rows.callWith_builtin1 (thn (ha pos pins s σ H _ I h) fun us s1 ⟨vs,H1,I1,r1,q1⟩=>hc pins s1 σ H1 vs us Q I1 r1 q1) he hpl
theorem pe_callTy (hc:CallR X (.type T) r) (hg:Gl X x) (hm:X.mg x=none) (hv:bootBuiltins x=some (.type T)) (ha:PA X (e::es) t) (hn:x ≠ "__name__" := by decide) (hdb:(x == ("__debug__" : Str))=false:=by decide)
  (he:starEach (e::es) X.env=(false,eval e X.env)::starEach es X.env:=by rfl) (hpl:(backTo pos (starEach es X.env)).any (·.1)=false:=by rfl):PE X (.Call (.Name x p) (e::es) [] pos) (tCB r t):=by
 intro pins s σ H Q I h
 refine wpAny_Call_Name_kw (ld_blt I hg hm hv ?_ hn hdb)
 exact PyProof.Rows.callWith_type1 (thn (ha pos pins s σ H _ I h) fun us s1 ⟨vs,H1,I1,r1,q1⟩=>hc pins s1 σ H1 vs us Q I1 r1 q1) he hpl
end
end L2
namespace HT
open PySem PyProof.Rows
noncomputable def lexLt:List Int→List Int→Bool
 | [],[]=>false
 | [],_::_=>true
 | _::_,[]=>false
 | x::xs,y::ys=>if x=y then lexLt xs ys else decide (x < y)
theorem lexLt_cons (x y:Int) (xs ys:List Int):lexLt (x::xs) (y::ys)=if x=y then lexLt xs ys else decide (x < y):=rfl
section
open PySem.SeqAt
open PySem.AutoSeq1 (wpAny_loadPart')
open PySem.MeetsSeq PySem.MeetsSeq2 PySem.MeetsSeq3
end
section
variable {prog:Program} {w:World} {A:Around} {E:Value→Shared→Prop} {s:Shared}
theorem cat_tup {t b:Addr} {vs ws:List Value} {Q:Value→Shared→Prop} (ht:IsTup s.heap t vs.toArray) (hb:IsTup s.heap b ws.toArray) (hv:vs≠[])
  (h1:ws=[]→Q (.ref t) s) (h2:ws≠[]→Q (.ref s.heap.objs.size) { s with heap:=s.heap.push { cls:=.type "tuple",data:=.seq (vs++ws).toArray } })
  (hsz:vs.length+ws.length≤sizeLine):wpAny (model prog w) A (binaryOp .Add (.ref t) (.ref b)) Q E s:=by
 obtain ⟨⟨cls,dd,data,sl⟩,ho,hc,n,hd⟩:=id ht
 obtain ⟨⟨cls2,dd2,data2,sl2⟩,ho2,hc2,n2,hd2⟩:=id hb
 simp only at hc hd hc2 hd2
 subst hc hd hc2 hd2
 have e:vs.toArray++ws.toArray=(vs++ws).toArray:=by simp
 by_cases hw:ws=[]
 ·exact concat_meets ⟨_,ho,rfl⟩ ⟨_,ho2,rfl⟩ noFill_tuple_add seq_tuple_add PySem.F.slot_tuple_add PySem.F.entry_tuple_add (PySem.F.args_tuple_add_2 _ _)
   (tuple_addW1 t b vs.toArray ws.toArray n n2 dd dd2 sl sl2 (by simpa using hv) (by simp [hw])) ⟨ho,ho2,h1 hw⟩
 ·refine concat_meets ⟨_,ho,rfl⟩ ⟨_,ho2,rfl⟩ noFill_tuple_add seq_tuple_add PySem.F.slot_tuple_add PySem.F.entry_tuple_add (PySem.F.args_tuple_add_2 _ _)
   (tuple_addW2 t b vs.toArray ws.toArray n n2 dd dd2 sl sl2 (by simpa using hv) (by simpa using hw) (by rw [List.size_toArray,List.size_toArray]; exact hsz)) ⟨ho,ho2,?_⟩
  rw [e]
  exact h2 hw
noncomputable def sIx (n d:Nat):Option Int→Nat
 | none=>d
 | some v=>if v < 0 then (v+(n:Int)).toNat else min v.toNat n
theorem sIx_none (n d:Nat):sIx n d none=d:=rfl
theorem sIx_nat (n d k:Nat):sIx n d (some (k:Int))=min k n:=by
 show (if (k:Int) < 0 then ((k:Int)+(n:Int)).toNat else min (k:Int).toNat n)=min k n
 rw [if_neg (by omega),Int.toNat_natCast]
theorem sIx_le (n d:Nat) (hd:d≤n) (o:Option Int):sIx n d o≤n:=by
 cases o with
 | none=>exact hd
 | some v =>
  show (if v < 0 then (v+(n:Int)).toNat else min v.toNat n)≤n
  by_cases hv:v < 0
  ·rw [if_pos hv]; omega
  ·rw [if_neg hv]; exact Nat.min_le_right _ _
theorem clip_eq (v:Int) (n d:Nat):(if v < 0 then max (v+(n:Int)) 0 else min v (n:Int))=((sIx n d (some v):Nat):Int):=by
 show (if v < 0 then max (v+(n:Int)) 0 else min v (n:Int))=(((if v < 0 then (v+(n:Int)).toNat else min v.toNat n):Nat):Int)
 by_cases hv:v < 0
 ·simp only [if_pos hv]; omega
 ·simp only [if_neg hv]; omega
theorem adjust_gen (lo hi:Option Int) (n:Nat):Builtin.Slice.sliceAdjust lo hi 1 (n:Int)=(((sIx n 0 lo:Nat):Int),((sIx n n hi:Nat):Int)):=by
 have h1:¬ ((1:Int) < 0):=by omega
 unfold Builtin.Slice.sliceAdjust
 simp only [h1,if_false]
 refine Prod.ext ?_ ?_
 ·cases lo with
  | none=>rfl
  | some v=>exact clip_eq v n 0
 ·cases hi with
  | none=>rfl
  | some v=>exact clip_eq v n n
theorem places_gen (i j:Nat):Builtin.Slice.slicePlaces (i:Int) (j:Int) 1=j - i:=by
 unfold Builtin.Slice.slicePlaces
 have h1:(1:Int) > 0:=by omega
 simp only [h1,if_true,Int.ediv_one]
 split <;> omega
theorem slicePart_ {v:Value} {o:Option Int} {Q:Option Int→Shared→Prop} (p:IsPart v o) (h:Q o s):wpAny (model prog w) A (Builtin.Slice.slicePartIndex v) Q E s:=by
 cases p with
 | none=>exact slicePart_none h
 | int i t=>exact slicePart_int h
theorem sliceApplied_gen {sl:Addr} {vl vu:Value} {lo hi:Option Int} {n:Nat} {Q:Int×Int×Nat→Shared→Prop} (hs:s.heap.IsSliceOf sl vl vu .none) (pl:IsPart vl lo) (pu:IsPart vu hi)
  (h:Q (((sIx n 0 lo:Nat):Int),1,sIx n n hi - sIx n 0 lo) s):wpAny (model prog w) A (Builtin.Slice.sliceApplied (.ref sl) (pure (n:Int))) Q E s:=by
 obtain ⟨os,hos,hcs,hds⟩:=id hs
 unfold Builtin.Slice.sliceApplied Builtin.Slice.sliceFields
 refine wpAny_bind (wpAny_bind (wpAny_field hos hds (x:=vl) rfl (wpAny_bind (wpAny_field hos hds (x:=vu) rfl (wpAny_bind (wpAny_field hos hds (x:=.none) rfl (wpAny_pure ?_)))))))
 refine wpAny_bind (slicePart_none ?_)
 show wpAny _ _ (if ((1:Int) == 0)=true then _ else _) _ _ s
 rw [if_neg (by decide)]
 refine wpAny_bind (slicePart_ pl (wpAny_bind (slicePart_ pu (wpAny_bind (wpAny_pure ?_)))))
 show wpAny _ _ (match Builtin.Slice.sliceAdjust lo hi 1 (n:Int) with | (lo,hi)=>pure (lo,(1:Int),Builtin.Slice.slicePlaces lo hi 1)) _ _ s
 rw [adjust_gen lo hi n]
 show wpAny _ _ (pure (((sIx n 0 lo:Nat):Int),(1:Int),Builtin.Slice.slicePlaces ((sIx n 0 lo:Nat):Int) ((sIx n n hi:Nat):Int) 1)) _ _ s
 rw [places_gen]
 exact wpAny_pure h
theorem pick_gen (xs:Array Value) (i k:Nat):((List.range k).filterMap fun (m:Nat)=>xs[((i:Int)+(m:Int)*1).toNat]?).toArray=((xs.toList.drop i).take k).toArray:=by
 have e:(fun (m:Nat)=>xs[((i:Int)+(m:Int)*1).toNat]?)=fun m=>xs[i+m]?:=by
  funext m
  have:((i:Int)+(m:Int)*1).toNat=i+m:=by omega
  rw [this]
 rw [e]
 have:=pick_run xs i k
 rw [List.filterMap_map] at this
 have e2:((fun x=>xs[x]?) ∘ fun x=>i+x)=fun m=>xs[i+m]?:=rfl
 rw [e2] at this
 rw [this]
theorem getItem_tuple_cut {t sl:Addr} {items:Array Value} {vl vu:Value} {lo hi:Option Int} {Q:Value→Shared→Prop} (ht:IsTup s.heap t items) (hs:s.heap.IsSliceOf sl vl vu .none) (pl:IsPart vl lo) (pu:IsPart vu hi)
  (hw:¬ (sIx items.size 0 lo=0∧sIx items.size items.size hi=items.size))
  (h:Q (.ref s.heap.objs.size) { s with heap:=s.heap.push { cls:=.type "tuple",data:=.seq ((items.toList.drop (sIx items.size 0 lo)).take (sIx items.size items.size hi - sIx items.size 0 lo)).toArray } })
  (hsz:items.size≤sizeLine):wpAny (model prog w) A (getItem (.ref t) (.ref sl)) Q E s:=by
 have htake:sizeOk (.seq ((items.toList.drop (sIx items.size 0 lo)).take (sIx items.size items.size hi - sIx items.size 0 lo)).toArray):=by
  show ((items.toList.drop (sIx items.size 0 lo)).take (sIx items.size items.size hi - sIx items.size 0 lo)).toArray.size≤sizeLine
  rw [List.size_toArray,List.length_take,List.length_drop,Array.length_toList]
  omega
 have hj:sIx items.size items.size hi≤items.size:=sIx_le _ _ (Nat.le_refl _) hi
 obtain ⟨os,hos,hcs,hds⟩:=id hs
 have hTs:s.TypeIs (.ref sl) "slice" := ⟨os,hos,hcs⟩
 unfold getItem
 try with_reducible refine wpAny_holding ?_
 first | refine wpAny_bind (wpAny_pure ?_) | skip
 refine wpAny_bind (wpAny_sequenceKey ht.typeIs (by decide) ?_)
 refine wpAny_bind (wpAny_callSpecial?_slot (name:=Str.ofString "__getitem__") ht.typeIs PyProof.Rows.slot_tuple_getitem
  (wpAny_call_entry PyProof.Rows.slot_tuple_getitem ht.typeIs entry_tuple_getitem ?_ (args_tuple_getitem _ _)))
 show wpAny _ _ (Builtin.Tuple.tupleItemsOf (.ref t) >>= _) _ _ s
 refine wpAny_bind (tupleItemsOf_ ht ?_)
 refine wpAny_bind (wpAny_typeOf hTs ?_)
 rw [if_pos (by decide)]
 refine wpAny_bind (sliceApplied_gen hs pl pu ?_)
 have hno:¬ ((((sIx items.size 0 lo:Nat):Int) == 0 && (1:Int) == 1 && (sIx items.size items.size hi - sIx items.size 0 lo) == items.size)=true):=by
  intro q
  rw [Bool.and_eq_true,Bool.and_eq_true] at q
  have q1:((sIx items.size 0 lo:Nat):Int)=0:=eq_of_beq q.1.1
  have q2:sIx items.size items.size hi - sIx items.size 0 lo=items.size:=eq_of_beq q.2
  exact hw ⟨by omega,by omega⟩
 show wpAny _ _ (if (((sIx items.size 0 lo:Nat):Int) == 0 && (1:Int) == 1 && (sIx items.size items.size hi - sIx items.size 0 lo) == items.size)=true then _ else _) _ _ s
 rw [if_neg hno,pick_gen]
 first
  | exact wpAny_bind (m:=Builtin.Tuple.tupleExact _) (wpAny_newObj_type (wpAny_pure ⟨_,rfl,wpAny_pure h⟩) htake)
  | exact wpAny_bind (m:=Builtin.Tuple.tupleExact _) (wpAny_newObj_type (wpAny_bind (wpAny_pure (wpAny_pure ⟨_,rfl,wpAny_pure h⟩))) htake)
  | exact wpAny_bind (wpAny_bind (m:=Builtin.Tuple.tupleExact _) (wpAny_newObj_type (wpAny_pure (wpAny_pure ⟨_,rfl,wpAny_pure h⟩)) htake))
  | exact wpAny_bind (wpAny_bind (m:=Builtin.Tuple.tupleExact _) (wpAny_newObj_type (wpAny_pure ⟨_,rfl,wpAny_pure h⟩) htake))
end
end HT
namespace L2
open PySem PySem.Spec PyProof.Rows
abbrev TO:=St→Hp→(Option Int→Hp→Prop)→Prop
def PO (X:Cx) (e:Option Expr) (t:TO):Prop :=
 ∀ (pins:List (Addr×Obj)) (s:Shared) (σ:St) (H:Hp) (Q:Option Int→Hp→Prop),Inv X pins σ H s→t σ H Q →
  wpAny (model X.prog X.w) X.A (evalPart e X.env) (fun u s'=>∃ o H',Inv X pins σ H' s'∧IsPart u o∧Q o H') X.xe s
def tNoPart:TO:=fun _ H Q=>Q none H
def tPart (t:TE):TO:=fun σ H Q=>t σ H fun x H1=>∃ i,x=.int i∧Q (some i) H1
theorem intsAre_of {ns:List Int}:∀ {us:List Value},Vals (ns.map V.int) us→IntsAre us ns:=by
 induction ns with
 | nil=>intro us r; rw [List.map_nil] at r; cases r; exact .nil
 | cons n ns ih =>
  intro us r
  rw [List.map_cons] at r
  cases r with
  | cons r1 r2 =>
   obtain ⟨t,e⟩:=r1
   subst e
   exact .cons n t (ih r2)
section
variable {X:Cx} {e:Expr} {te:TE} {lo hi:Option Expr} {tl th:TO} {pos p2:Pos}
theorem po_none:PO X none tNoPart:=by
 intro pins s σ H Q I h
 rw [evalPart_none]
 exact wpAny_pure ⟨none,H,I,.none,h⟩
theorem po_some (h:PE X e te):PO X (some e) (tPart te):=by
 intro pins s σ H Q I hw
 rw [evalPart_some]
 refine thn (h pins s σ H _ I hw) fun u s1 ⟨x,H1,I1,r1,q1⟩=>?_
 obtain ⟨i,rfl,q⟩:=q1
 obtain ⟨t,rfl⟩:=r1
 exact ⟨some i,H1,I1,.int i t,q⟩
def SlR (X:Cx) (r:V→Option Int→Option Int→Hp→VK→Prop):Prop :=
 ∀ (pins:List (Addr×Obj)) (s:Shared) (σ:St) (H:Hp) (x:V) (v vl vu:Value) (lo hi:Option Int) (sl:Addr) (Q:VK),Inv X pins σ H s→RelV x v→s.heap.IsSliceOf sl vl vu .none→IsPart vl lo→IsPart vu hi→r x lo hi H Q →
  ∃ T id,typeLookup (.type T) "__getitem__" = pure (some (.builtin id))∧s.TypeIs v T∧wpAny (model X.prog X.w) X.A (getItem v (.ref sl)) (EP X pins σ Q) X.xe s
def tSl (r:V→Option Int→Option Int→Hp→VK→Prop) (te:TE) (tl th:TO):TE:=fun σ H Q=>te σ H fun x H1=>tl σ H1 fun l H2=>th σ H2 fun u H3=>r x l u H3 Q
theorem pe_slice {r:V→Option Int→Option Int→Hp→VK→Prop} (hr:SlR X r) (he:PE X e te) (hl:PO X lo tl) (hu:PO X hi th):PE X (.Subscript e (.Slice lo hi none p2) pos) (tSl r te tl th):=by
 intro pins s σ H Q I h
 refine Subscript_ (thn (he pins s σ H _ I h) fun v s1 ⟨x,H1,I1,r1,q1⟩=>?_)
 refine wpAny_Slice (thn (hl pins s1 σ H1 _ I1 q1) fun vl s2 ⟨l,H2,I2,pl,q2⟩=>thn (hu pins s2 σ H2 _ I2 q2) fun vu s3 ⟨u,H3,I3,pu,q3⟩=>?_)
 rw [evalPart_none]
 refine wpAny_pure ?_
 have I4:Inv X pins σ H3 { s3 with heap:=s3.heap.push { cls:=.type "slice",data:=.fields #[vl,vu,.none] } }:=I3.kept (t':=s3.toks) fun b ob q=>Heap.get?_push_of_some _ q
 obtain ⟨T,id,hT,ht,hg⟩:=hr pins { s3 with heap:=s3.heap.push { cls:=.type "slice",data:=.fields #[vl,vu,.none] } } σ H3 x v vl vu l u s3.heap.objs.size Q I4 r1 (Heap.IsSliceOf.new ..) pl pu q3
 show wpAny (model X.prog X.w) X.A (subscriptTail e (.Slice lo hi none p2) v (.ref s3.heap.objs.size)) (EP X pins σ Q) X.xe { s3 with heap:=s3.heap.push { cls:=.type "slice",data:=.fields #[vl,vu,.none] } }
 exact tail_any (ops:=[.ref s3.heap.objs.size,v]) ht hT hg (by with_unfolding_all rfl)
noncomputable def cutV (xs:List V) (lo hi:Option Int):List V:=(xs.drop (HT.sIx xs.length 0 lo)).take (HT.sIx xs.length xs.length hi - HT.sIx xs.length 0 lo)
theorem cutV_length (xs:List V) (lo hi:Option Int):(cutV xs lo hi).length≤xs.length:=by
 unfold cutV
 rw [List.length_take,List.length_drop]
 omega
def rSlT (K:PySem.W.Frag):V→Option Int→Option Int→Hp→VK→Prop:=fun x lo hi H Q=>∃ a xs,x=.ref a∧SqT K H a xs ∧
 ¬ (HT.sIx xs.length 0 lo=0∧HT.sIx xs.length xs.length hi=xs.length)∧∀ p,H p=none→Q (.ref p) (upd H p (.tup (cutV xs lo hi)))
theorem sl_tup:SlR X (rSlT X.K):=by
 intro pins s σ H x v vl vu lo hi sl Q I rx hs pl pu h
 obtain ⟨a,xs,rfl,hx,hw,q⟩:=h
 cases rx
 obtain ⟨its,r,ht,hz⟩:=I.tuple hx
 have hlen:its.toArray.size=xs.length:=by rw [List.size_toArray]; exact r.length.symm
 refine ⟨"tuple",_,PyProof.Rows.slot_tuple_getitem.lookup,ht.typeIs,?_⟩
 refine HT.getItem_tuple_cut ht hs pl pu (by rw [hlen]; exact hw) ?_ (by rw [hlen]; exact hz)
 rw [hlen]
 refine ⟨.ref s.heap.objs.size,_,I.laid (t':=s.toks) (o:=.tup (cutV xs lo hi)) (fun b ob q=>Heap.get?_push_of_some _ q) (Nat.le_refl _) ?_,rfl,q _ (I.hok.fresh (Nat.le_refl _))⟩
 exact ⟨Nat.le_trans (cutV_length xs lo hi) hz,_,(r.drop (HT.sIx xs.length 0 lo)).take (HT.sIx xs.length xs.length hi - HT.sIx xs.length 0 lo),IsTup.new _ _⟩
def rCatT (K:PySem.W.Frag):R2:=fun x y H Q=>∃ a b xs ys,x=.ref a∧y=.ref b∧SqT K H a xs∧SqT K H b ys∧xs≠[]∧xs.length+ys.length≤sizeLine ∧
 (ys=[]→Q (.ref a) H)∧(ys≠[]→∀ p,H p=none→Q (.ref p) (upd H p (.tup (xs++ys))))
theorem Vals.nil_iff {xs:List V} {us:List Value} (r:Vals xs us):us=[]↔xs=[]:=by
 cases r with
 | nil=>simp
 | cons _ _=>simp
theorem op_catT:OpR X (binaryOp .Add) (rCatT X.K):=by
 intro pins s σ H x y v u Q I rx ry h
 obtain ⟨a,b,xs,ys,rfl,rfl,ha,hb,hx,hz,q1,q2⟩:=h
 cases rx
 cases ry
 obtain ⟨its,r1,p1,_⟩:=I.tuple ha
 obtain ⟨its2,r2,p2,_⟩:=I.tuple hb
 refine HT.cat_tup p1 p2 (fun z=>hx (r1.nil_iff.mp z)) (fun z=>⟨.ref a,H,I,rfl,q1 (r2.nil_iff.mp z)⟩) (fun z=>?_) (by rw [← r1.length,← r2.length]; exact hz)
 refine ⟨.ref s.heap.objs.size,_,I.laid (t':=s.toks) (o:=.tup (xs++ys)) (fun b ob q=>Heap.get?_push_of_some _ q) (Nat.le_refl _) ?_,rfl,q2 (fun w=>z (r2.nil_iff.mpr w)) _ (I.hok.fresh (Nat.le_refl _))⟩
 exact ⟨by rw [List.length_append]; exact hz,_,r1.append r2,IsTup.new _ _⟩
end
noncomputable def ixN (n:Nat) (i:Int):Option Nat:=if 0≤i then (if i < n then some i.toNat else none) else if -(n:Int)≤i then some (i+n).toNat else none
noncomputable def atI {α:Type} (xs:List α) (i:Int):Option α:=(ixN xs.length i).bind fun j=>xs[j]?
theorem ixN_seq {n:Nat} {i:Int} {j:Nat} (h:ixN n i=some j):seqIndex? i n=some j∧j < n ∧ -(n:Int)≤i∧i < n:=by
 unfold ixN at h
 by_cases h0:0≤i
 ·rw [if_pos h0] at h
  by_cases h1:i < n
  ·rw [if_pos h1] at h
   have e:i.toNat=j:=Option.some.inj h
   exact ⟨by rw [seqIndex_of h0 h1,e],by omega,by omega,h1⟩
  ·rw [if_neg h1] at h; cases h
 ·rw [if_neg h0] at h
  by_cases h1 : -(n:Int)≤i
  ·rw [if_pos h1] at h
   have e:(i+n).toNat=j:=Option.some.inj h
   exact ⟨by rw [seqIndex_neg (by omega) h1,e],by omega,h1,by omega⟩
  ·rw [if_neg h1] at h; cases h
theorem atI_get {α:Type} {xs:List α} {i:Int} {v:α} (h:atI xs i=some v):∃ j,seqIndex? i xs.length=some j∧xs[j]?=some v∧j < xs.length ∧ -(xs.length:Int)≤i∧i < xs.length:=by
 unfold atI at h
 cases e:ixN xs.length i with
 | none=>rw [e] at h; cases h
 | some j =>
  rw [e] at h
  obtain ⟨h1,h2,h3,h4⟩:=ixN_seq e
  exact ⟨j,h1,h,h2,h3,h4⟩
theorem atI_nat {α:Type} {xs:List α} {j:Nat} {v:α} (h:xs[j]?=some v):atI xs (j:Int)=some v:=by
 have hj:j < xs.length:=(List.getElem?_eq_some_iff.mp h).1
 have e:ixN xs.length (j:Int)=some j:=by
  unfold ixN
  rw [if_pos (by omega),if_pos (by omega)]; simp
 unfold atI; rw [e]; exact h
def PlainIx (b:Expr):Prop:=∀ o i,subscripted b false o i=operate [o,i] (getItem o i)
def IxR (X:Cx) (r:R2):Prop :=
 ∀ (value slice:Expr) (pins:List (Addr×Obj)) (s:Shared) (σ:St) (H:Hp) (x y:V) (v u:Value) (Q:VK),Inv X pins σ H s→RelV x v→RelV y u→r x y H Q →
  subscripted slice false v u=operate [v,u] (getItem v u)→wpAny (model X.prog X.w) X.A (subscriptTail value slice v u) (EP X pins σ Q) X.xe s
def MtR (X:Cx) (id:String) (r:V→List V→Hp→VK→Prop):Prop :=
 ∀ (pins:List (Addr×Obj)) (s:Shared) (σ:St) (H:Hp) (x:V) (xs:List V) (v:Value) (us:List Value) (Q:VK),Inv X pins σ H s→RelV x v→Vals xs us→r x xs H Q →
  wpAny (model X.prog X.w) X.A (call (.builtin id) (v::us)) (EP X pins σ Q) X.xe s
section
variable {X:Cx} {a b:Expr} {ta tb:TE} {pos:Pos}
theorem pe_ix {r:R2} (hr:IxR X r) (ha:PE X a ta) (hb:PE X b tb) (hs:PlainIx b):PE X (.Subscript a b pos) (tOp r ta tb):=by
 intro pins s σ H Q I h
 exact Subscript_ (binT ha hb I h fun v u s2 x y H2 I2 rx ry q=>hr a b pins s2 σ H2 x y v u Q I2 rx ry q (hs _ _))
def rIxL (K:PySem.W.Frag):R2:=fun x y H Q=>∃ p xs i v,x=.ref p∧y=.int i∧SqL K H p xs∧atI xs i=some v∧Q v H
def rIxT (K:PySem.W.Frag):R2:=fun x y H Q=>∃ p xs i v,x=.ref p∧y=.int i∧SqT K H p xs∧atI xs i=some v∧Q v H
theorem ix_list:IxR X (rIxL X.K):=by
 intro value slice pins s σ H x y v u Q I rx ry h hs
 obtain ⟨p,xs,i,z,rfl,rfl,hq,he,q⟩:=h
 cases rx
 obtain ⟨t,rfl⟩:=ry
 obtain ⟨its,r,pl,hz⟩:=I.list hq
 obtain ⟨j,h1,h2,h3,h4,h5⟩:=atI_get he
 obtain ⟨w,ew,rw'⟩:=r.get h2
 have hl:=r.length
 have hn:=line63
 have fin:EP X pins σ Q w s:=⟨z,H,I,rw',q⟩
 by_cases h0:0≤i
 ·have hj:i.toNat=j:=by
   rw [seqIndex_of h0 h5] at h1
   exact Option.some.inj h1
  exact item_listR pl.isList h0 (by omega) (by rw [hj]; simpa using ew) fin hs
 ·have hj:(i+(its.toArray.size:Int)).toNat=j:=by
   rw [seqIndex_neg (by omega) h4] at h1
   rw [List.size_toArray,← hl]
   exact Option.some.inj h1
  exact subscriptTail_builtinR (x:=w) pl.isList.typeIs slot_list_getitem.lookup
   (wpAny_getItem_list_neg (Q:=fun r s'=>r=w∧EP X pins σ Q r s') pl.isList (by omega) (by rw [List.size_toArray] <;> omega) (by omega) (by rw [hj]; simpa using ew) ⟨rfl,fin⟩) hs
theorem ix_tup:IxR X (rIxT X.K):=by
 intro value slice pins s σ H x y v u Q I rx ry h hs
 obtain ⟨p,xs,i,z,rfl,rfl,hq,he,q⟩:=h
 cases rx
 obtain ⟨t,rfl⟩:=ry
 obtain ⟨its,r,pl,hz⟩:=I.tuple hq
 obtain ⟨j,h1,h2,h3,h4,h5⟩:=atI_get he
 obtain ⟨w,ew,rw'⟩:=r.get h2
 have hl:=r.length
 have hn:=line63
 have fin:EP X pins σ Q w s:=⟨z,H,I,rw',q⟩
 exact subscriptTail_builtinR (x:=w) pl.typeIs slot_tuple_getitem.lookup
  (getItem_tuple (j:=j) (Q:=fun r s'=>r=w∧EP X pins σ Q r s') pl (by omega) (by omega) (by rw [List.size_toArray,← hl]; exact h1) (by simpa using ew) ⟨rfl,fin⟩) hs
theorem mapSeq_set (its:List Value) (n j:Nat) (u:Value):Obj.mapSeq (·.setIfInBounds j u) { cls:=.type "list",data:=.seq its.toArray n }={ cls:=.type "list",data:=.seq (its.set j u).toArray n }:=by
 simp [Obj.mapSeq]
theorem Inv.lst {pins:List (Addr×Obj)} {σ:St} {H:Hp} {s:Shared} {p:Addr} {xs:List V} (I:Inv X pins σ H s) (h:H p=some (.lst xs)) :
  ∃ (its:List Value) (n:Nat),Vals xs its∧s.heap.get? p=some { cls:=.type "list",data:=.seq its.toArray n }∧xs.length≤sizeLine:=by
 obtain ⟨z,its,n,r,e⟩:=I.hok p _ h
 exact ⟨its,n,r,e,z⟩
theorem Inv.lstUpd {pins:List (Addr×Obj)} {σ:St} {H:Hp} {s:Shared} {p:Addr} {xs ys:List V} {its its':List Value} {n n':Nat} {f:Obj→Obj} (I:Inv X pins σ H s) (h:H p=some (.lst xs))
  (ho:s.heap.get? p=some { cls:=.type "list",data:=.seq its.toArray n }) (hf:f { cls:=.type "list",data:=.seq its.toArray n }={ cls:=.type "list",data:=.seq its'.toArray n' }) (r:Vals ys its') (hz:ys.length≤sizeLine) (t:Nat) :
  Inv X pins σ (upd H p (.lst ys)) { s with heap:=s.heap.update p f,toks:=t }:=by
 have e:(s.heap.update p f).get? p=some { cls:=.type "list",data:=.seq its'.toArray n' }:=by
  rw [Heap.get?_update_self f ho (by rw [hf] <;> rfl),hf]
 refine I.write (x:=p) (e:=p) (by rw [h]; trivial) (.inl rfl) (fun b u hb q=>(Heap.get?_update_other _ _ (Ne.symm hb)).trans q) ⟨_,e⟩ ?_
 exact ⟨hz,its',n',r,e⟩
def rSetL:V→V→V→Hp→(Hp→Prop)→Prop:=fun o i v H Q=>∃ p xs k j,o=.ref p∧i=.int k∧H p=some (.lst xs)∧ixN xs.length k=some j∧Q (upd H p (.lst (xs.set j v)))
theorem set_list:PSet X rSetL:=by
 intro pins s σ H o i v ov iv u Q I ro ri rv h
 obtain ⟨p,xs,k,j,rfl,rfl,hp,hj,q⟩:=h
 cases ro
 obtain ⟨t,rfl⟩:=ri
 obtain ⟨its,n,r,ho,hz⟩:=I.lst hp
 obtain ⟨h1,h2,h3,h4⟩:=ixN_seq hj
 have hl:=r.length
 have hn:=line63
 have I':Inv X pins σ (upd H p (.lst (xs.set j v))) { s with heap:=s.heap.update p (Obj.mapSeq (·.setIfInBounds j u)) } :=
  I.lstUpd hp ho (mapSeq_set its n j u) (r.set rv j) (by rw [List.length_set]; exact hz) s.toks
 by_cases h0:0≤k
 ·have hk:k.toNat=j:=by
   rw [seqIndex_of h0 h4] at h1
   exact Option.some.inj h1
  exact PySem.W.ki_setAt ho h0 (by omega) (by rw [List.size_toArray,← hl]; exact h4) (by rw [hk]; exact ⟨_,I',q⟩)
 ·have hk:(k+(its.toArray.size:Int)).toNat=j:=by
   rw [seqIndex_neg (by omega) h3] at h1
   rw [List.size_toArray,← hl]
   exact Option.some.inj h1
  exact PySem.W.ki_setBack ho (by omega) (by rw [List.size_toArray,← hl]; exact h3) (by omega) (by rw [hk]; exact ⟨_,I',q⟩)
theorem slice_bounds (lo hi:Option Int) (n:Nat):(sliceBounds lo hi none n).1=((HT.sIx n 0 lo:Nat):Int)∧(sliceBounds lo hi none n).2.1=((HT.sIx n n hi:Nat):Int)∧(sliceBounds lo hi none n).2.2=1:=by
 refine ⟨?_,?_,rfl⟩
 ·cases lo with
  | none=>simp [sliceBounds,HT.sIx]
  | some i =>
   simp only [sliceBounds,HT.sIx,Option.getD_none,show (1:Int) > 0 by decide,if_true]
   by_cases h:i < 0
   ·simp only [h,if_true] <;> omega
   ·simp only [h,if_false] <;> omega
 ·cases hi with
  | none=>simp [sliceBounds,HT.sIx]
  | some i =>
   simp only [sliceBounds,HT.sIx,Option.getD_none,show (1:Int) > 0 by decide,if_true]
   by_cases h:i < 0
   ·simp only [h,if_true] <;> omega
   ·simp only [h,if_false] <;> omega
theorem slicePick_cut (its:List Value) (lo hi:Option Int):slicePick its.toArray lo hi none=((its.drop (HT.sIx its.length 0 lo)).take (HT.sIx its.length its.length hi - HT.sIx its.length 0 lo)).toArray:=by
 obtain ⟨h1,h2,h3⟩:=slice_bounds lo hi its.toArray.size
 unfold slicePick
 rw [h1,h2,h3]
 simp only [sliceRange_one,pick_run,List.size_toArray] <;> rfl
def rSlL (K:PySem.W.Frag):V→Option Int→Option Int→Hp→VK→Prop:=fun x lo hi H Q=>∃ a xs,x=.ref a∧SqL K H a xs∧∀ p,H p=none→Q (.ref p) (upd H p (.lst (cutV xs lo hi)))
theorem sl_list:SlR X (rSlL X.K):=by
 intro pins s σ H x v vl vu lo hi sl Q I rx hs pl pu h
 obtain ⟨a,xs,rfl,hx,q⟩:=h
 cases rx
 obtain ⟨its,r,ht,hz⟩:=I.list hx
 have hlen:=r.length
 refine ⟨"list",_,slot_list_getitem.lookup,ht.isList.typeIs,?_⟩
 refine wpAny_getItem_list_slice ht.isList hs pl pu .none (by simp) ?_ (by rw [List.size_toArray] <;> omega)
 rw [slicePick_cut,← hlen]
 refine ⟨.ref s.heap.objs.size,_,I.laid (t':=s.toks) (o:=.lst (cutV xs lo hi)) (fun b ob q=>Heap.get?_push_of_some _ q) (Nat.le_refl _) ?_,rfl,q _ (I.hok.fresh (Nat.le_refl _))⟩
 exact ⟨Nat.le_trans (cutV_length xs lo hi) hz,_,0,(r.drop (HT.sIx xs.length 0 lo)).take (HT.sIx xs.length xs.length hi - HT.sIx xs.length 0 lo),Heap.get?_push_size _ rfl⟩
noncomputable def flatV:V→Bool
 | .non=>true
 | .bl _=>true
 | .int _=>true
 | .str _=>true
 | _=>false
noncomputable def eqV:V→V→Bool
 | .non,.non=>true
 | .bl a,.bl b=>a == b
 | .bl a,.int b=>(if a then 1 else 0) == b
 | .int a,.bl b=>a == (if b then 1 else 0)
 | .int a,.int b=>a == b
 | .str a,.str b=>a == b
 | _,_=>false
theorem eqAt_V {A:Around} {s:Shared} {y x:V} {u v:Value} (ry:RelV y u) (rx:RelV x v) (fy:flatV y=true) (fx:flatV x=true):SeqAt.EqAt A s u v (eqV y x):=by
 cases y with
 | non =>
  cases ry
  cases x with
  | non=>cases rx; exact SeqAt.EqAt.same _
  | bl b=>cases rx; exact SeqAt.EqAt.none_bool b
  | int b=>obtain ⟨t,rfl⟩:=rx; exact SeqAt.EqAt.none_int b t
  | str b=>obtain ⟨t,rfl⟩:=rx; exact SeqAt.EqAt.none_str b t
  | _=>exact absurd (show false=true from fx) Bool.false_ne_true
 | bl a =>
  cases ry
  cases x with
  | non=>cases rx; exact SeqAt.EqAt.bool_none a
  | bl b=>cases rx; exact SeqAt.EqAt.bool_bool a b
  | int b=>obtain ⟨t,rfl⟩:=rx; exact SeqAt.EqAt.bool_int a b t
  | str b=>obtain ⟨t,rfl⟩:=rx; exact SeqAt.EqAt.bool_str a b t
  | _=>exact absurd (show false=true from fx) Bool.false_ne_true
 | int a =>
  obtain ⟨t',rfl⟩:=ry
  cases x with
  | non=>cases rx; exact SeqAt.EqAt.int_none a t'
  | bl b=>cases rx; exact SeqAt.EqAt.int_bool a t' b
  | int b=>obtain ⟨t,rfl⟩:=rx; exact SeqAt.EqAt.int_int a t' b t
  | str b=>obtain ⟨t,rfl⟩:=rx; exact SeqAt.EqAt.int_str a t' b t
  | _=>exact absurd (show false=true from fx) Bool.false_ne_true
 | str a =>
  obtain ⟨t',rfl⟩:=ry
  cases x with
  | non=>cases rx; exact SeqAt.EqAt.str_none a t'
  | bl b=>cases rx; exact SeqAt.EqAt.str_bool a t' b
  | int b=>obtain ⟨t,rfl⟩:=rx; exact SeqAt.EqAt.str_int a t' b t
  | str b=>obtain ⟨t,rfl⟩:=rx; exact SeqAt.EqAt.str_str a t' b t
  | _=>exact absurd (show false=true from fx) Bool.false_ne_true
 | _=>exact absurd (show false=true from fy) Bool.false_ne_true
theorem call_len_seq:CallR X (.builtin "len") (fun xs H Q=>∃ p ys,xs=[.ref p]∧(SqL X.K H p ys∨SqT X.K H p ys)∧Q (.int ys.length) H):=by
 intro pins s σ H xs us Q I r h
 obtain ⟨p,ys,rfl,hq,q⟩:=h
 obtain ⟨u,rfl,rx⟩:=vals1 r
 cases rx
 have hn:=line63
 rcases hq with hq | hq
 ·obtain ⟨its,r',pl,hz⟩:=I.list hq
  have hlen:=r'.length
  exact Calls.call_len_list pl.isList (by simp only [List.size_toArray] <;> omega) ⟨.int ys.length,H,I.tok _,⟨s.toks+1,by rw [List.size_toArray,hlen]⟩,q⟩
 ·obtain ⟨its,r',pl,hz⟩:=I.tuple hq
  have hlen:=r'.length
  exact len_tuple pl (by simp only [List.size_toArray] <;> omega) ⟨.int ys.length,H,I.tok _,⟨s.toks+1,by rw [List.size_toArray,hlen]⟩,q⟩
theorem call_list_of:CallR X (.type "list") (fun xs H Q=>∃ p ys,xs=[.ref p]∧(SqL X.K H p ys∨SqT X.K H p ys)∧∀ l,H l=none→Q (.ref l) (upd H l (.lst ys))):=by
 intro pins s σ H xs us Q I r h
 obtain ⟨p,ys,rfl,hq,q⟩:=h
 obtain ⟨u,rfl,rx⟩:=vals1 r
 cases rx
 have fin:∀ (its:List Value),Vals ys its→ys.length≤sizeLine→∀ (h':Heap) (c':Nat),(∀ b o',s.heap.get? b=some o'→h'.get? b=some o') →
   h'.get? s.heap.objs.size=some { cls:=.type "list",dict:=none,data:=.seq its.toArray c',slots:=#[] }→EP X pins σ Q (.ref s.heap.objs.size) { s with heap:=h' }:=fun its r' hz h' c' kp e =>
  ⟨.ref s.heap.objs.size,_,I.laid (t':=s.toks) kp (Nat.le_refl _) (show ObjOk X.prog X.w _ h' _ (.lst ys) from ⟨hz,its,c',r',e⟩),rfl,q _ (I.hok.fresh (Nat.le_refl _))⟩
 rcases hq with hq | hq
 ·obtain ⟨its,r',pl,hz⟩:=I.list hq
  have hlen:=r'.length
  obtain ⟨o,ho,hc,n,hd⟩:=pl.isList
  exact call_list_seq p (.inl rfl) ho hc hd (fun h' c' kp e=>fin its r' hz h' c' kp e) (by simp only [List.size_toArray] <;> omega)
 ·obtain ⟨its,r',pl,hz⟩:=I.tuple hq
  have hlen:=r'.length
  obtain ⟨o,ho,hc,n,hd⟩:=pl
  exact call_list_seq p (.inr rfl) ho hc hd (fun h' c' kp e=>fin its r' hz h' c' kp e) (by simp only [List.size_toArray] <;> omega)
theorem call_tuple_of:CallR X (.type "tuple") (fun xs H Q=>∃ p ys,xs=[.ref p]∧((SqL X.K H p ys∧∀ l,H l=none→Q (.ref l) (upd H l (.tup ys)))∨(SqT X.K H p ys∧Q (.ref p) H))):=by
 intro pins s σ H xs us Q I r h
 obtain ⟨p,ys,rfl,h⟩:=h
 obtain ⟨u,rfl,rx⟩:=vals1 r
 cases rx
 rcases h with ⟨hq,q⟩ | ⟨hq,q⟩
 ·obtain ⟨its,r',pl,hz⟩:=I.list hq
  have hlen:=r'.length
  refine call_tuple_list pl.isList (fun h' kp=>?_) (by simp only [List.size_toArray] <;> omega)
  have I1:Inv X pins σ H { s with heap:=h' }:=I.kept (t':=s.toks) kp
  have I2:Inv X pins σ (upd H h'.objs.size (.tup ys)) { s with heap:=h'.push { cls:=.type "tuple",data:=.seq its.toArray } } :=
   I1.laid (t':=s.toks) (fun b o e=>Heap.get?_push_of_some _ e) (Nat.le_refl _) (show ObjOk X.prog X.w _ _ _ (.tup ys) from ⟨hz,its,r',IsTup.new _ _⟩)
  exact ⟨.ref h'.objs.size,_,I2,rfl,q _ (I1.hok.fresh (Nat.le_refl _))⟩
 ·obtain ⟨its,r',pl,hz⟩:=I.tuple hq
  exact call_tuple_same pl ⟨.ref p,H,I,rfl,q⟩
def tyV (K:PySem.W.Frag) (T:String) (x:V) (H:Hp):Prop:=match x with
 | .str _=>T = "str"
 | .int _=>T = "int"
 | .ref p=>(T = "list" ∧ ∃ xs,SqL K H p xs)∨(T = "tuple" ∧ ∃ o,K.lookup p=some o∧o.cls=.type "tuple" ∧ o.dict=none) ∨
   (T = "dict" ∧ ((∃ kvs,H p=some (.dK kvs))∨∃ kvs,H p=some (.dT kvs)))∨(T = "set" ∧ ∃ S n,H p=some (.set S n))
 | _=>False
theorem tyV_is {pins:List (Addr×Obj)} {σ:St} {H:Hp} {s:Shared} {T:String} {x:V} {v:Value} (I:Inv X pins σ H s) (r:RelV x v) (ty:tyV X.K T x H) :
  s.TypeIs v T∧∀ a,v=.ref a→∃ ob,s.heap.get? a=some ob∧ob.dict=none:=by
 cases x with
 | str z =>
  obtain ⟨t,rfl⟩:=r
  cases (show T = "str" from ty)
  exact ⟨typeIs_str s z t,fun _ e=>nomatch e⟩
 | int i =>
  obtain ⟨t,rfl⟩:=r
  cases (show T = "int" from ty)
  exact ⟨typeIs_int s i t,fun _ e=>nomatch e⟩
 | ref p =>
  cases r
  rcases ty with ⟨rfl,xs,hq⟩ | ⟨rfl,o,hk,hc,hd⟩ | ⟨rfl,hk⟩ | ⟨rfl,S,n,hk⟩
  ·obtain ⟨its,_,pl,_⟩:=I.list hq
   refine ⟨pl.isList.typeIs,fun a e=>?_⟩
   cases e
   obtain ⟨o,n,e,c,hd,_⟩:=pl
   exact ⟨o,e,hd⟩
  ·refine ⟨⟨o,I.kIn p o hk,hc⟩,fun a e=>?_⟩
   cases e
   exact ⟨o,I.kIn _ o hk,hd⟩
  ·have z:∃ o,s.heap.get? p=some o∧o.ExactDict:=by
    rcases hk with ⟨kvs,hk⟩ | ⟨kvs,hk⟩
    ·obtain ⟨_,_,_,_,o,_,_,e,ex,_⟩:=I.hok p _ hk
     exact ⟨o,e,ex⟩
    ·obtain ⟨_,_,_,_,o,_,_,e,ex,_⟩:=I.hok p _ hk
     exact ⟨o,e,ex⟩
   obtain ⟨o,e,ex⟩:=z
   refine ⟨⟨o,e,ex.1⟩,fun a e2=>?_⟩
   cases e2
   exact ⟨o,e,ex.2.1⟩
  ·obtain ⟨o,_,_,_,e,ex,_⟩:=I.hok p _ hk
   refine ⟨⟨o,e,ex.1⟩,fun a e2=>?_⟩
   cases e2
   exact ⟨o,e,ex.2.1⟩
 | _=>exact False.elim ty
def tBM (K:PySem.W.Frag) (T:String) (r:V→List V→Hp→VK→Prop) (to:TE) (t:TA):TE:=fun σ H Q=>to σ H fun x H1=>tyV K T x H1∧t σ H1 fun xs H2=>r x xs H2 Q
variable {o e:Expr} {es:List Expr} {to:TE} {t:TA} {name:Str} {apos cpos:Pos} {T id:String} {r:V→List V→Hp→VK→Prop}
theorem pe_bm (pa:PlainAttrs T) (slot:Slot T name id) (hty:typeOf (.builtin id)=pure (.type "method_descriptor")) (hm:MtR X id r) (ho:PE X o to) (ha:PA X (e::es) t)
  (hbase:attributeBase o name X.env (eval o X.env)=eval o X.env:=by rfl)
  (hfew:((backTo cpos (starEach (e::es) X.env)).all (fun x=>!x.1) && (backToKw cpos (keywordEach [] X.env)).all (fun x=>x.1.isSome)
   && decide ((e::es).length+([]:List Keyword).length+(if ([]:List Keyword).isEmpty then 0 else 1) < 30))=true:=by rfl)
  (hline:(apos.endLine == cpos.line)=true:=by rfl) (hs:starEach (e::es) X.env=(false,eval e X.env)::starEach es X.env:=by rfl) (hplain:(backTo cpos (starEach es X.env)).any (·.1)=false:=by rfl) :
  PE X (.Call (.Attribute o name apos) (e::es) [] cpos) (tBM X.K T r to t):=by
 intro pins s σ H Q I h
 refine wpAny_Call_method_late hbase hfew hline rfl (thn (ho pins s σ H _ I h) fun v s1 ⟨x,H1,I1,r1,ty,q1⟩=>?_)
 obtain ⟨h1,h2⟩:=tyV_is I1 r1 ty
 refine ⟨T,id,pa,slot,hty,h1,h2,?_⟩
 have hA:=ha cpos pins s1 σ H1 _ I1 q1
 rw [hs] at hA ⊢
 refine Calls.callWith_builtin (by show (false || (backTo cpos (starEach es X.env)).any (·.1))=false; rw [hplain] <;> rfl) (Calls.evalArgs_plain ?_)
 exact thn hA fun us s2 ⟨vs,H2,I2,r2,q2⟩=>hm pins s2 σ H2 x vs v us Q I2 r1 r2 q2
/- xs.append(e), list.index on a module's tuple .. are MtR facts of 06m -/
end
def MtM (X:Cx) (id:String) (r:V→List V→Hp→VK→Prop):Prop :=
 ∀ (pins:List (Addr×Obj)) (s:Shared) (σ:St) (H:Hp) (x:V) (xs:List V) (v:Value) (us:List Value) (Q:VK),Inv X pins σ H s→RelV x v→Vals xs us→r x xs H Q →
  wpAny (model X.prog X.w) X.A (call (.builtin id) (v::us)) (EP X pins σ Q) X.xe s
theorem Vals.one {x:V} {us:List Value} (h:Vals [x] us):∃ u,us=[u]∧RelV x u:=by
 cases h with
 | cons r q=>cases q; exact ⟨_,rfl,r⟩
theorem Vals.two {x y:V} {us:List Value} (h:Vals [x,y] us):∃ u v,us=[u,v]∧RelV x u∧RelV y v:=by
 cases h with
 | cons r h=>obtain ⟨v,rfl,q⟩:=Vals.one (x:=y) h; exact ⟨_,_,rfl,r,q⟩
theorem Vals.rep {xs:List V} {us:List Value} (h:Vals xs us):∀ k:Nat,Vals (List.replicate k xs).flatten (List.replicate k us).flatten
 | 0=>.nil
 | k+1=>by
  rw [List.replicate_succ,List.replicate_succ,List.flatten_cons,List.flatten_cons]
  exact Vals.append h (Vals.rep h k)
theorem foldl_rep (its:List Value):∀ (k:Nat) (acc:List Value),
  List.foldl (fun x1 x2=>x1++x2) acc.toArray (List.replicate k its.toArray)=(acc++(List.replicate k its).flatten).toArray
 | 0,acc=>by simp
 | k+1,acc=>by
  have e:acc.toArray++its.toArray=(acc++its).toArray:=by simp
  have e2:(acc++its)++(List.replicate k its).flatten=acc++(List.replicate (k+1) its).flatten:=by
   rw [List.replicate_succ,List.flatten_cons,List.append_assoc]
  rw [← e2,← foldl_rep its k (acc++its),← e,List.replicate_succ,List.foldl_cons]
section
variable {X:Cx} {pins:List (Addr×Obj)} {σ:St} {H:Hp} {s:Shared} {l b:Addr} {xs ys zs:List V}
theorem Inv.lset {its its':List Value} {n:Nat} {f:Array Value→Array Value} {t':Nat} (I:Inv X pins σ H s) (hH:H l=some (.lst xs))
  (e:s.heap.get? l=some { cls:=.type "list",data:=.seq its.toArray n }) (hf:f its.toArray=its'.toArray) (hv:Vals ys its') (hz:ys.length≤sizeLine) :
  Inv X pins σ (upd H l (.lst ys)) { s with heap:=s.heap.update l (Obj.mapSeq f),toks:=t' }:=by
 have q:=PySem.IsL.update e f
 rw [hf] at q
 refine I.write (x:=l) (e:=l) (by rw [hH]; exact trivial) (.inl rfl) (fun b' u hb hu=>(Heap.get?_update_other s.heap (Obj.mapSeq f) (Ne.symm hb)).trans hu) ⟨_,q⟩ ?_
 exact ⟨hz,its',_,hv,q⟩
theorem Inv.lnew {its:List Value} {t':Nat} (I:Inv X pins σ H s) (hv:Vals ys its) (hz:ys.length≤sizeLine) :
  Inv X pins σ (upd H s.heap.objs.size (.lst ys)) { s with heap:=s.heap.push { cls:=.type "list",data:=.seq its.toArray },toks:=t' } :=
 I.laid (fun _ _ q=>Heap.get?_push_of_some _ q) (Nat.le_refl _) ⟨hz,its,0,hv,Heap.get?_push_size _ rfl⟩
theorem Inv.fresh (I:Inv X pins σ H s):H s.heap.objs.size=none:=I.hok.fresh (Nat.le_refl _)
theorem Inv.lstM (I:Inv X pins σ H s) (hH:H l=some (.lst xs)):xs.length≤sizeLine∧∃ (its:List Value) (n:Nat),Vals xs its∧xs.length=its.length∧s.heap.get? l=some { cls:=.type "list",data:=.seq its.toArray n }:=by
 obtain ⟨z,its,n,r,e⟩:=I.hok l _ hH
 exact ⟨z,its,n,r,r.length,e⟩
theorem notLongL {n:Nat} (h:n≤sizeLine):Builtin.List.listTooLong n=false:=by
 unfold Builtin.List.listTooLong
 exact decide_eq_false (by omega)
end
section
variable {X:Cx}
def rAppend:V→List V→Hp→VK→Prop:=fun x vs H Q=>∃ l xs y,x=.ref l∧vs=[y]∧H l=some (.lst xs)∧xs.length < sizeLine∧Q .non (upd H l (.lst (xs++[y])))
theorem mt_append:MtM X "list.append" rAppend:=by
 intro pins s σ H x vs v us Q I rx rv h
 obtain ⟨l,xs,y,rfl,rfl,hH,hz,q⟩:=h
 cases rx
 obtain ⟨u,rfl,ru⟩:=rv.one
 obtain ⟨z,its,n,r,hl,e⟩:=I.lstM hH
 refine call_meets F.slot_list_append ⟨_,e,rfl⟩ F.entry_list_append (F.args_list_append_2 _ _) (PySem.list_append l its.toArray n u (by rw [List.size_toArray]; omega)) ⟨e,?_⟩
 refine ⟨.non,_,I.lset (its':=its++[u]) hH e (by simp) (r.append (.cons ru .nil)) ?_,rfl,q⟩
 rw [List.length_append,List.length_singleton]
 omega
def rExtend:V→List V→Hp→VK→Prop:=fun x vs H Q=>∃ l b xs zs,x=.ref l∧vs=[.ref b]∧H l=some (.lst xs)∧H b=some (.lst zs)∧xs.length+zs.length≤sizeLine∧Q .non (upd H l (.lst (xs++zs)))
theorem mt_extend:MtM X "list.extend" rExtend:=by
 intro pins s σ H x vs v us Q I rx rv h
 obtain ⟨l,b,xs,zs,rfl,rfl,hH,hB,hz,q⟩:=h
 cases rx
 obtain ⟨u,rfl,ru⟩:=rv.one
 cases ru
 obtain ⟨z,its,n,r,hl,e⟩:=I.lstM hH
 obtain ⟨z2,its2,n2,r2,hl2,e2⟩:=I.lstM hB
 have hsz:its.toArray.size+its2.toArray.size≤sizeLine:=by rw [List.size_toArray,List.size_toArray]; omega
 have hlong:¬ (!its.toArray.isEmpty && Builtin.List.listTooLong (its.toArray.size+its2.toArray.size))=true:=by
  rw [notLongL hsz,Bool.and_false]
  exact Bool.false_ne_true
 refine call_meets F.slot_list_extend ⟨_,e,rfl⟩ F.entry_list_extend (F.args_list_extend_2 _ _)
  (AutoSeq1.list_extend_list_list_0 l its.toArray n b its2.toArray n2 hlong (by rw [List.size_toArray]; omega) (by omega)) ⟨e,e2,?_⟩
 refine ⟨.non,_,I.lset (its':=its++its2) hH e (by simp) (r.append r2) ?_,rfl,q⟩
 rw [List.length_append]
 omega
def rCat:R2:=fun x y H Q=>∃ l b xs zs,x=.ref l∧y=.ref b∧H l=some (.lst xs)∧H b=some (.lst zs)∧xs.length+zs.length≤sizeLine∧∀ p,H p=none→Q (.ref p) (upd H p (.lst (xs++zs)))
theorem op_cat:OpR X (binaryOp .Add) rCat:=by
 intro pins s σ H x y v u Q I rx ry h
 obtain ⟨l,b,xs,zs,rfl,rfl,hH,hB,hz,q⟩:=h
 cases rx
 cases ry
 obtain ⟨z,its,n,r,hl,e⟩:=I.lstM hH
 obtain ⟨z2,its2,n2,r2,hl2,e2⟩:=I.lstM hB
 refine PySem.P.add_list e e2 ?_ (by rw [List.size_toArray,List.size_toArray]; omega)
 have ea:its.toArray++its2.toArray=(its++its2).toArray:=by simp
 rw [ea]
 exact ⟨.ref _,_,I.lnew (t':=s.toks) (r.append r2) (by rw [List.length_append]; omega),rfl,q _ I.fresh⟩
def rRep:R2:=fun x y H Q=>∃ l k xs,x=.ref l∧y=.int k∧H l=some (.lst xs) ∧ -(2 ^ 63)≤k∧k < 2 ^ 63∧xs.length*k.toNat≤sizeLine ∧
 ∀ p,H p=none→Q (.ref p) (upd H p (.lst (List.replicate k.toNat xs).flatten))
theorem len_rep {α:Type} (xs:List α) (k:Nat):(List.replicate k xs).flatten.length=k*xs.length:=by
 induction k with
 | zero=>simp
 | succ k ih=>rw [List.replicate_succ,List.flatten_cons,List.length_append,ih,Nat.succ_mul,Nat.add_comm]
theorem op_rep:OpR X (binaryOp .Mult) rRep:=by
 intro pins s σ H x y v u Q I rx ry h
 obtain ⟨l,k,xs,rfl,rfl,hH,h1,h2,hz,q⟩:=h
 cases rx
 obtain ⟨t,rfl⟩:=ry
 obtain ⟨z,its,n,r,hl,e⟩:=I.lstM hH
 have hlen:its.toArray.size*k.toNat≤sizeLine:=by rw [List.size_toArray,← hl]; exact hz
 have hcap:¬ its.toArray.size*k.toNat > (2 ^ 63 - 1) / 8:=by
  have:(sizeLine:Nat)≤(2 ^ 63 - 1) / 8:=by decide
  omega
 have hfit:¬ (!Builtin.List.listFitsIndex k)=true:=by
  rw [fitsIndex_both h1 h2]
  exact Bool.false_ne_true
 have hlong:¬ Builtin.List.listTooLong (its.toArray.size*k.toNat)=true:=by
  rw [notLongL hlen]
  exact Bool.false_ne_true
 have hnew:List.foldl (fun x1 x2=>x1++x2) #[] (List.replicate (if its.toArray.isEmpty=true then 0 else k.toNat) its.toArray)=(List.replicate k.toNat its).flatten.toArray:=by
  have f0:∀ m:Nat,List.foldl (fun x1 x2=>x1++x2) #[] (List.replicate m its.toArray)=(List.replicate m its).flatten.toArray:=fun m=>by
   have:=foldl_rep its m []
   rw [List.nil_append] at this
   exact this
  rw [f0]
  cases its with
  | nil=>simp
  | cons a r'=>rw [if_neg (by simp)]
 refine wpAny_binaryOp_repeat_ref (T := "list") (U := "int") (by decide) ⟨_,e,rfl⟩ (fun s'=>typeIs_int s' k t) noFill_list_mul F.fills_int_mul F.slot_int_rmul repeat_list F.slot_int_index.lookup
  (call_meets F.slot_int_rmul (typeIs_int s k t) F.entry_int_rmul (F.args_int_rmul_2 _ _) (int___rmul___int_list k t l its.toArray n)
   ⟨e,rfl,⟨_,e,rfl⟩,call_meets F.slot_list_mul ⟨_,e,rfl⟩ F.entry_list_mul (F.args_list_mul_2 _ _) (AutoListH.list___mul___list_int_3 l its.toArray n k t hfit hcap hlong) ⟨e,?_⟩⟩)
 rw [hnew]
 exact ⟨.ref _,_,I.lnew (t':=s.toks) (r.rep k.toNat) (by rw [len_rep,Nat.mul_comm]; exact hz),rfl,q _ I.fresh⟩
end
section
variable {prog:Program} {w:World} {A:Around} {E:Value→Shared→Prop} {s:Shared}
end
section
variable {X:Cx}
end
end L2
namespace Att
open PySem PySem.W PySem.Calls PyProof.Rows
theorem ints_of_wellAll {P:Params} {h:Heap}:∀ (ns:List Int) (vs:List Value),WellAll P h vs (ns.map WData.int)→IntsAre vs ns:=by
 intro ns
 induction ns with
 | nil =>
  intro vs w
  rw [List.map_nil] at w
  cases w
  exact .nil
 | cons n ns ih =>
  intro vs w
  rw [List.map_cons] at w
  cases w with
  | cons a b =>
   cases a
   exact .cons _ _ (ih _ b)
theorem script_of {l:OpenLaw} {n:Nat} (hn:l.most=some n) {P:Params} {h:Heap} {args:List WData} {vals:List Value}
  (hpre:l.row.toRowW.claim.pre args=true) (hwl:WellAll P h vals args) :
  ∃ a vs ns,vals=[Value.ref a]∧args=[WData.list (ns.map WData.int)]∧h.get? a=some { cls:=.type "list",data:=.seq vs.toArray }∧IntsAre vs ns∧ns.length≤n:=by
 have hsh:WShape.hasAll [] args [.list .int]=true:=(pre_splitW hpre).1
 have hc:l.pre.holds [] { args:=args }=true:=(pre_splitW hpre).2
 obtain ⟨d,r,rfl,h1,h2⟩:=hasAllW_cons hsh
 obtain rfl:=hasAllW_nil h2
 obtain ⟨xs,rfl,h3⟩:=hasW_list h1
 obtain ⟨ns,rfl⟩:=items_int h3
 have hlen:ns.length≤n:=by
  unfold OpenLaw.pre at hc
  have h4:(WTm.not (.lt (.lit (.int (n:Int))) (.len (.arg 0)))).holds [] { args:=[.list (ns.map .int)] }=true:=by
   have h4:=(holds_andW hc).1
   rw [hn] at h4
   exact h4
  have h5:=condW_of h4 (w_not (w_lt w_lit (w_len_list (w_arg rfl))))
  rw [List.length_map] at h5
  refine Nat.le_of_not_lt fun q=>?_
  have q':(n:Int) < ((ns.length:Nat):Int):=by omega
  first
   | (rw [decide_eq_true q'] at h5; exact absurd h5 (by decide))
   | (simp at h5; omega)
 cases hwl with
 | cons w1 w2 =>
  cases w2
  cases w1 with
  | list ho hall=>exact ⟨_,_,ns,rfl,rfl,ho,ints_of_wellAll ns _ hall,hlen⟩
theorem post_true (l:OpenLaw) (args:List WData):l.row.toRowW.claim.post args (.bool true) args=true :=
 postW_of (r:=l.row.toRowW) (X:=(true == true))
  (show WShape.has [] (.bool true) .bool=true by first | rfl | decide | simp [WShape.has,WShape.arms,WShape.armsAll])
  (show (WTm.eq .res (.lit (.bool true))).value [] { args:=args,res:=some (.bool true),after:=args }=some (.bool (true == true)) from w_eq_bool (w_res rfl) w_lit) rfl
theorem attach_call {l:OpenLaw} {n:Nat} {q:Program} {loose:List Str} {XP:(Str→Option Value)→Heap→Prop} {YP:World→Heap→Prop} {d:DefRec}
  (hn:l.most=some n) (hdf:d.params.defaults=[])
  (call:∀ (w:World) (s₀ s₁:Shared) (mg mb:Str→Option Value) (fa:Addr) (o:Obj) (pm cd doc:Value) (a:Addr) (vs:List Value) (ns:List Int),
   Ground q loose [] XP w s₀ mg mb s₁.heap→YP w s₁.heap →
   s₁.heap.get? fa=some o→o.data=.func (docDef d.name d.params d.body d.scope pm cd doc)→s₁.heap.CodeRec cd d.name→mg d.name=some (.ref fa) →
   s₁.heap.get? a=some { cls:=.type "list",data:=.seq vs.toArray }→IntsAre vs ns→ns.length≤n→s₁.gens=#[] →
   codeAny (model l.prog w) callerA (.call (.ref fa) ⟨[.ref a],[]⟩) (fun r s'=>r=.ok (.ret (.bool true))∧OldK s₁.heap s'.heap∧s'.os=s₁.os∧AllBare s'.gens) s₁) :
  WalkO q loose XP YP l.row.toRowW d [] (fun f vs=>PySem.call f vs):=by
 intro w s₀ s₁ mg mb G Y fa o pm cd doc dV kV ho hd hcd hD hmg hg args vals as hpre hlay hrd hwl hlo
 obtain rfl:dV=.none:=Dflts.none hD hdf
 obtain rfl:kV=.none:=Dflts.noKw hD
 obtain ⟨a,vs,ns,rfl,rfl,hobj,hints,hlen⟩:=script_of hn hpre hwl
 refine enter_call (codeAny_mono (call w s₀ s₁ mg mb fa o pm cd doc a vs ns G Y ho (fd_plain hd) hcd hmg hobj hints hlen hg) fun r s' hq=>?_)
 obtain ⟨rfl,h2,h3,h4⟩:=hq
 exact ⟨.inl ⟨.bool true,.bool true,[],rfl,fun _=>rfl,.bool true,post_true l _,fun _=>⟨List.Pairwise.nil,fun _ hm=>(nomatch hm)⟩⟩,h2,h3,h4⟩
section
variable {prog:Program} {w:World} {A:Around} {E:Value→Shared→Prop} {s:Shared} {K:Frag}
end
end Att
namespace L2
open PySem PySem.Spec PyProof.Rows
theorem vals_ints:∀ {vs:List Value} {ns:List Int},IntsAre vs ns→Vals (ns.map V.int) vs
 | _,_,.nil=>.nil
 | _,_,.cons n t h=>.cons ⟨t,rfl⟩ (vals_ints h)
def Only (H:Hp):Prop:=∀ b,H b=none∨∃ o xs,H b=some (.frz o (.lst xs))
theorem law_call {P:Program} {w:World} {K:PySem.W.Frag} {mg mb:Str→Option Value} {CX:CXT} {k:Nat} {fa a:Addr} {fd:FuncData} {x:Str} {sp:Sp} {s₁:Shared} {vs:List Value} {ns:List Int}
  (KX:K.In s₁.heap) (hns:s₁.heap.Ns mainGlobals mg) (hb:s₁.heap.Ns builtinsNs mb) (hbb:∀ x:Str,x ≠ "__name__" → mb x=bootBuiltins x) (hlim:s₁.heap.NoLimit) (hg:s₁.gens=#[])
  (ha:s₁.heap.get? a=some { cls:=.type "list",data:=.seq vs.toArray }) (hi:IntsAre vs ns) (hl:ns.length≤sizeLine) (hr:Room k callerA)
  (F:∀ base:Heap,K.In base→base.Ns mainGlobals mg→FnOk P w K mg base CX k fa fd [x] sp) (hbind:∀ (s:Shared) (u:Value),BindsTo s fd ⟨[u],[]⟩ [(x,u)])
  (hsp:∀ H:Hp,Only H→SqL K H a (ns.map V.int)→sp [.ref a] H (fun v _=>v=.bl true) fun _ _ _=>False)
  (hCX:∀ H e s',CX [] H s₁ (fun _ _ _=>False) e s'→False) :
  codeAny (model P w) callerA (.call (.ref fa) ⟨[.ref a],[]⟩) (fun r s'=>r=.ok (.ret (.bool true))∧OldK s₁.heap s'.heap∧s'.os=s₁.os∧AllBare s'.gens) s₁:=by
 have rv:=vals_ints hi
 have lenV:=hi.length
 have core:∀ H:Hp,Only H→SqL K H a (ns.map V.int)→HOk P w H s₁.heap→(∀ b,H b≠none→b=a)→(H a≠none→K.lookup a=none) →
   codeAny (model P w) callerA (.call (.ref fa) ⟨[.ref a],[]⟩) (fun r s'=>r=.ok (.ret (.bool true))∧OldK s₁.heap s'.heap∧s'.os=s₁.os∧AllBare s'.gens) s₁:=by
  intro H hO hS hok hA hK
  have base_of:∀ {b:Addr} {o:Obj},s₁.heap.get? b=some o→H b=none→(hidT s₁.heap H).get? b=some o:=fun e n=>hidT_get e n
  have noA:∀ {b:Addr} {o:Obj} {es:Array DictEntry} {ep:Nat},s₁.heap.get? b=some o→o.data=.dict es ep→H b=none:=fun {b o es ep} e d=>by
   cases q:H b with
   | none=>rfl
   | some u =>
    have e':b=a:=hA b (by rw [q]; simp)
    subst e'
    rw [ha] at e; cases e
    have d':Data.seq vs.toArray _=Data.dict es ep:=d
    cases d'
  have nsK:∀ {b:Addr} {m:Str→Option Value},s₁.heap.Ns b m→(hidT s₁.heap H).Ns b m:=fun {b m} ⟨o,es,ep,e,d,r⟩=>⟨o,es,ep,base_of e (noA e d),d,r⟩
  have hKb:K.In (hidT s₁.heap H):=fun b o e=>base_of (KX b o e) (by
   cases q:H b with
   | none=>rfl
   | some u =>
    have e':b=a:=hA b (by rw [q]; simp)
    subst e'
    rw [hK (by rw [q]; simp)] at e; cases e)
  have hM:Mod K mg (hidT s₁.heap H):=⟨hKb,nsK hns,⟨mb,nsK hb,hbb⟩,let ⟨mc,h1,h2⟩:=hlim; ⟨mc,nsK h1,h2⟩⟩
  have e0:Env0 P w K mg (hidT s₁.heap H) callerA [] s₁ H:=⟨rfl,hM,fun b o e=>of_hidT e,Nat.le_of_eq (hidT_size _ _),trivial,fun b hb=>absurd (show b∈([]:List Addr) from hb) (by simp),hok,.of_eq hg⟩
  refine codeAny_mono ((F _ hKb (nsK hns)).run callerA [] s₁ H ⟨[.ref a],[]⟩ [.ref a] [.ref a] _ _ hr e0 (hbind s₁ (.ref a)) (.cons rfl .nil) (hsp H hO hS)) fun r s' h=>?_
  cases r with
  | error e=>exact (hCX H e s' h).elim
  | ok fl =>
   cases fl with
   | next=>exact False.elim h
   | brk=>exact False.elim h
   | cont=>exact False.elim h
   | ret u =>
    obtain ⟨v,H',os,bare,un,hok',r',q⟩:=h
    have q':v=.bl true:=q
    subst q'
    obtain rfl:u=Value.bool true:=r'
    refine ⟨rfl,OldK.of_keep fun b o e=>?_,os,bare⟩
    cases q:H b with
    | none=>exact un.keep b o e q (by intro z; exact absurd (show b∈([]:List Addr) from z) (by simp)) (by simp)
    | some u =>
     rcases hO b with z | ⟨ob,xs,z⟩
     ·rw [q] at z; cases z
     ·have z2:=un.frzs b ob _ z
      obtain ⟨e1,_⟩:=hok b _ z
      obtain ⟨e2,_⟩:=hok' b _ z2
      rw [e] at e1; cases e1
      exact e2
 cases hk:K.lookup a with
 | some o =>
  have e:=KX a o hk
  rw [ha] at e
  cases e
  refine core (fun _=>none) (fun _=>.inl rfl) (.inr ⟨_,vs.toArray,_,hk,rfl,rfl,rfl,by rw [List.size_toArray,lenV]; exact hl,by simpa using rv⟩) (fun b u z=>by have z':(none:Option HO)=some u:=z; cases z') (fun b z=>absurd rfl z) fun z=>absurd rfl z
 | none =>
  refine core (fun b=>if b=a then some (.frz { cls:=.type "list",data:=.seq vs.toArray } (.lst (ns.map V.int))) else none) (fun b=>?_) (.inl (.inr ⟨{ cls:=.type "list",data:=.seq vs.toArray },if_pos rfl⟩)) (fun b u z=>?_) (fun b z=>?_) fun _=>hk
  ·by_cases hb:b=a
   ·exact .inr ⟨_,_,if_pos hb⟩
   ·exact .inl (if_neg hb)
  ·by_cases hb:b=a
   ·have z':=(if_pos hb).symm.trans z
    cases z'
    subst hb
    exact ⟨ha,by rw [List.length_map]; exact hl,vs,_,rv,ha⟩
   ·have z':=(if_neg hb).symm.trans z
    cases z'
  ·by_cases hb:b=a
   ·exact hb
   ·exact absurd (if_neg hb) z
theorem walk_of {l:PySem.W.OpenLaw} {n k:Nat} {q:Program} {loose:List Str} {XP:(Str→Option Value)→Heap→Prop} {YP:World→Heap→Prop} {d:DefRec} {K:Params→PySem.W.Frag} {CX:World→CXT} {sp:World→Sp} {x:Str}
  (hn:l.most=some n) (hn2:n≤sizeLine) (hdf:d.params.defaults=[]) (hr:Room k callerA)
  (hY:∀ (w:World) (h:Heap),YP w h→(K w.params).In h)
  (F:∀ (w:World) (mg:Str→Option Value) (fa:Addr) (h:Heap),(K w.params).In h→h.Ns mainGlobals mg→mg d.name=some (.ref fa) →
   ∃ fd:FuncData,(∀ (s:Shared) (u:Value),BindsTo s fd ⟨[u],[]⟩ [(x,u)]) ∧
    ∀ base:Heap,(K w.params).In base→base.Ns mainGlobals mg→FnOk l.prog w (K w.params) mg base (CX w) k fa fd [x] (sp w))
  (hsp:∀ (w:World) (H:Hp) (a:Addr) (ns:List Int),ns.length≤n→Only H→SqL (K w.params) H a (ns.map V.int)→sp w [.ref a] H (fun v _=>v=.bl true) fun _ _ _=>False)
  (hCX:∀ (w:World) (H:Hp) (s:Shared) (e:Value) (s':Shared),CX w [] H s (fun _ _ _=>False) e s'→False) :
  PySem.W.WalkO q loose XP YP l.row.toRowW d [] (fun f vs=>PySem.call f vs):=by
 refine Att.attach_call hn hdf fun w s₀ s₁ mg mb fa o pm cd doc a vs ns G Y ho hd hcd hmg hobj hints hlen hg=>?_
 have KX:=hY w _ Y
 obtain ⟨fd,hb,hF⟩:=F w mg fa _ KX G.T.g hmg
 exact law_call KX G.T.g G.T.b G.T.builtins G.T.nolimit hg hobj hints (Nat.le_trans hlen hn2) hr hF hb (fun H hO hS=>hsp w H a ns hlen hO hS) fun H e s'=>hCX w H s₁ e s'
end L2
/- THE LAST THEOREM (shape; LID, My.* are yours):
  My.Adr: a structure of the addresses that your layer names (classes, functions); My.Txt K t: a structure (Prop) of the equations over K;
  My.txt_mk : {K} {implicit addresses ..} (e1 : nsIn K mainGlobals "law" = some (some (.ref f))) (e2 : K.lookup f = some ⟨oc, od, .func (fnOf "law" "law" params body scope dV kV doc pm an cdv ct), sl⟩) (e3 : codeIn K cdv "law" = true) .. : ∃ t, My.Txt K t
set_option maxRecDepth 100000 in
set_option maxHeartbeats 0 in
theorem PySem.Challenge.cw_LID_holds : PySem.Challenge.rw_LID.Holds := by
 w_on; o_law; k_head; (case hw => w_witness2)
 k_fill
 refine L2.walk_of (l := PySem.Challenge.rw_LID) (n := 63) (k := 40) (x := "script") (CX := fun w => ..) (sp := fun _ => My.sp_law) rfl (by decide) rfl ⟨rfl, by decide, by decide⟩ (fun w h Y => PySem.W.kIn_of Y) ?F ?S ?C
 case F =>
  intro w mg fa h KX G hmg
  have T : ∃ t, My.Txt (L2.KOf KX) t := by
   dsimp only [L2.KOf]                          -- K must stand as «<heap const> w.params» for k_is
   refine' My.txt_mk ?e1 ?e2 ?e3 ..
   (case e1 => PySem.W.k_is)                    -- in the order: a name -> its address -> its object -> its parts
   (case e2 => PySem.W.k_is)
   ..
  obtain ⟨t, T⟩ := T
  have e0 := hmg.symm.trans (PySem.W.mg_of KX G T.law)
  cases e0                                       -- fa is the law's own address
  exact ⟨_, fun s u => .of_eq rfl, fun base kb nb => My.law_fn T kb nb⟩     -- if «.of_eq rfl» comes too early: refine' ⟨_, ?b, fun base kb nb => My.law_fn T kb nb⟩; exact fun s u => .of_eq rfl
 case S => exact fun w H a ns hl hO hS => ..
 case C => exact ..
(the tactic k_is has no namespace: write k_is) -/
namespace L2
open PySem PySem.Spec PyProof.Rows
noncomputable def inClass (s:Stmt) (j:Nat):Stmt:=match s with
 | .ClassDef _ _ _ body _ _ _ _ _ _ _=>body.getD j (.Pass ⟨0,0,0,0⟩)
 | _=>.Pass ⟨0,0,0,0⟩
noncomputable def defArgs (s:Stmt):Arguments:=match s with
 | .FunctionDef _ a _ _ _ _ _ _ _ _=>a
 | _=>{ posonlyargs:=[],args:=[],vararg:=none,kwonlyargs:=[],kw_defaults:=[],kwarg:=none,defaults:=[] }
noncomputable def defBody (s:Stmt):List Stmt:=match s with
 | .FunctionDef _ _ b _ _ _ _ _ _ _=>b
 | _=>[]
noncomputable def defScope (s:Stmt):Scope:=match s with
 | .FunctionDef _ _ _ _ _ _ sc _ _ _=>sc
 | _=>{ kind:=.function,names:=[],isGenerator:=false,isCoroutine:=false }
abbrev CX0:CXT:=fun _ _ _ _ _ _=>False
abbrev E0:XK:=fun _ _ _=>False
theorem pass0 {X:Cx}:Passes CX0 X E0:=fun _ _ _ _ _ _ _ h=>h.elim
structure Fun (K:PySem.W.Frag) (x qual:Str) (st:Stmt) (f:Addr) (fd:FuncData):Prop where
 ex:∃ (oc:Value) (od:Option Addr) (kV doc pm:Value) (an:Option Addr) (cdv ct:Value) (osl:Array (Option Value)),
  fd=PySem.W.fnOf x qual (defArgs st) (defBody st) (defScope st) .none kV doc pm an cdv ct∧K.lookup f=some ⟨oc,od,.func fd,osl⟩∧PySem.W.codeIn K cdv qual=true
 kp:PySem.W.keepIn K (.ref f)=true
section
variable {P:Program} {w:World} {K:PySem.W.Frag} {mg:Str→Option Value} {base:Heap}
theorem Fun.ok {x qual:Str} {st:Stmt} {f:Addr} {fd:FuncData} {N ps:List Str} {k:Nat} {sp:Sp} (F:Fun K x qual st f fd) (S:FnScope N ps (defScope st)) (len:∀ vs H Q E,sp vs H Q E→vs.length=ps.length)
  (hbody:∀ (cdv:Value) (A:Around) (outer:List Env) (s:Shared) (H:Hp) (vs:List V) (Q:VK) (E:XK),Room k (A.deeper (envOfC qual (defScope st) s.heap.objs.size f cdv))→sp vs H Q E →
   ∃ t,PSs (cxOf CX0 P w K mg base N qual (defScope st) f cdv A outer s H E).nox (defBody st) t∧t { nx:=fun _ H'=>Q .non H',rt:=Q } (start N vs) H):FnOk P w K mg base CX0 (k+1) f fd ps sp:=by
 obtain ⟨oc,od,kV,doc,pm,an,cdv,ct,osl,rfl,lk,hcd⟩:=F.ex
 refine fn_of lk hcd S len fun A outer s H vs Q E hr hsp=>?_
 obtain ⟨t,h,q⟩:=hbody cdv A outer s H vs Q E hr hsp
 exact ⟨t,h.nox,q⟩
theorem Fun.binds {x qual:Str} {st:Stmt} {f:Addr} {fd:FuncData} {ps:List Str} (F:Fun K x qual st f fd)
  (h:∀ (kV doc pm:Value) (an:Option Addr) (cdv ct:Value) (us:List Value),us.length=ps.length→bindArgs (PySem.W.fnOf x qual (defArgs st) (defBody st) (defScope st) .none kV doc pm an cdv ct) ⟨us,[]⟩=pure (ps.zip us)):Binds K fd ps []:=by
 obtain ⟨oc,od,kV,doc,pm,an,cdv,ct,osl,rfl,lk,hcd⟩:=F.ex
 exact .all (h kV doc pm an cdv ct)
theorem fun_mk {x qual:Str} {st:Stmt} {f:Addr} {oc:Value} {od an:Option Addr} {osl:Array (Option Value)} {kV doc pm cdv ct:Value} (l:K.lookup f=some ⟨oc,od,.func (PySem.W.fnOf x qual (defArgs st) (defBody st) (defScope st) .none kV doc pm an cdv ct),osl⟩)
  (c:PySem.W.codeIn K cdv qual=true) (k:PySem.W.keepIn K (.ref f)=true):Fun K x qual st f (PySem.W.fnOf x qual (defArgs st) (defBody st) (defScope st) .none kV doc pm an cdv ct):=⟨⟨oc,od,kV,doc,pm,an,cdv,ct,osl,rfl,l,c⟩,k⟩
end
section
variable {X:Cx}
theorem pv (i:Nat) {x:Str} {pos:Pos} (hN:X.N[i]?=some x:=by rfl) (hv:Vis X.env.scope x:=by first | exact Or.inl rfl | exact Or.inr (Or.inl rfl) | exact Or.inr (Or.inr rfl)) (hd:(x == ("__debug__" : Str))=false:=by decide)
  (hcd:(x == ("__classdict__" : Str))=false:=by decide):PE X (.Name x pos) (tVar i):=pe_var hN hv hd hcd
end
theorem iteF {A B:Prop} (h:B):if false=true then A else B:=by
 rw [if_neg Bool.false_ne_true]
 exact h
theorem iteT {A B:Prop} (h:A):if true=true then A else B:=by
 rw [if_pos rfl]
 exact h
theorem ite2 {c A B:Prop} [Decidable c] (h1:c→A) (h2:¬ c→B):if c then A else B:=by
 by_cases h:c
 ·rw [if_pos h]
  exact h1 h
 ·rw [if_neg h]
  exact h2 h
def Same (H H':Hp):Prop:=∀ b o,H b=some o→H' b=some o
theorem Same.refl (H:Hp):Same H H:=fun _ _ h=>h
theorem Same.trans {H H1 H2:Hp} (a:Same H H1) (b:Same H1 H2):Same H H2:=fun c o h=>b c o (a c o h)
theorem Same.free {H H':Hp} (e:Same H H') {l:Addr} (h:H' l=Option.none):H l=Option.none:=by
 cases q:H l with
 | none=>rfl
 | some o =>
  rw [e l o q] at h
  cases h
theorem Same.seq {K:PySem.W.Frag} {H H':Hp} {a:Addr} {xs:List V} (e:Same H H') (h:SqL K H a xs):SqL K H' a xs:=by
 rcases h with (h | ⟨o,h⟩) | h
 ·exact .inl (.inl (e _ _ h))
 ·exact .inl (.inr ⟨o,e _ _ h⟩)
 ·exact .inr h
noncomputable def clStep (env:Env) (cs:List (Str×Addr)) (x:Str×NameKind):List (Str×Addr) :=
 if x.2 == .free then (match env.cells.lookup x.1 with | some a=>(x.1,a)::cs | none=>cs) else cs
noncomputable def clOf (scope:Scope) (env:Env):List (Str×Addr):=scope.names.foldl (clStep env) []
theorem clFor_go {env:Env} (f:Str×NameKind→List (Str×Addr)→Sem (ForInStep (List (Str×Addr))))
  (hf:∀ n k r,f (n,k) r=if (k == NameKind.free)=true then (do let a ← cellOf env n; pure (ForInStep.yield ((n,a)::r))) else pure (ForInStep.yield r)) :
  ∀ (names:List (Str×NameKind)) (cs:List (Str×Addr)),(∀ x∈names,x.2=.free→∃ a,env.cells.lookup x.1=some a)→forIn names cs f=pure (names.foldl (clStep env) cs)
 | [],cs,_=>rfl
 | (n,k)::r,cs,h=>by
  rw [List.forIn_cons,List.foldl_cons,hf]
  have hr:=fun y hy=>h y (List.mem_cons_of_mem _ hy)
  by_cases hk:k=.free
  ·subst hk
   obtain ⟨a,ha⟩:=h (n,NameKind.free) List.mem_cons_self rfl
   have e1:cellOf env n=pure a:=by unfold cellOf; rw [ha]
   have e2:clStep env cs (n,NameKind.free)=(n,a)::cs:=by unfold clStep; rw [ha]; rfl
   rw [e2,← clFor_go f hf r _ hr,e1]
   rfl
  ·have hb:(k == NameKind.free)=false:=by simpa using hk
   have e2:clStep env cs (n,k)=cs:=by unfold clStep; rw [hb]; rfl
   rw [e2,← clFor_go f hf r _ hr,hb]
   rfl
theorem clFor_eq {scope:Scope} {env:Env} (h:∀ x∈scope.names,x.2=.free→∃ a,env.cells.lookup x.1=some a):closureFor scope env=pure (clOf scope env):=by
 simp only [closureFor]
 rw [clFor_go (env:=env) _ (fun n k r=>by cases hkc:k == NameKind.free <;> simp [hkc]) scope.names [] h]
 rfl
theorem clFold_of {env:Env} {x:Str} {c:Addr}:∀ (names:List (Str×NameKind)) (cs:List (Str×Addr)),(names.foldl (clStep env) cs).lookup x=some c→env.cells.lookup x=some c∨cs.lookup x=some c
 | [],cs,h=>.inr h
 | y::r,cs,h=>by
  rw [List.foldl_cons] at h
  rcases clFold_of r _ h with z | z
  ·exact .inl z
  ·unfold clStep at z
   split at z
   ·split at z
    ·rename_i a ha
     rw [List.lookup_cons] at z
     cases hb:x == y.1 with
     | true =>
      rw [hb] at z
      rw [beq_iff_eq.mp hb]
      exact .inl (ha.trans z)
     | false =>
      rw [hb] at z
      exact .inr z
    ·exact .inr z
   ·exact .inr z
theorem clOf_of {scope:Scope} {env:Env} {x:Str} {c:Addr} (h:(clOf scope env).lookup x=some c):env.cells.lookup x=some c :=
 (clFold_of scope.names [] h).elim id fun z=>by cases z
theorem clFold_has {env:Env} {x:Str} {a:Addr} (ha:env.cells.lookup x=some a):∀ (names:List (Str×NameKind)) (cs:List (Str×Addr)),((x,NameKind.free)∈names∨cs.lookup x=some a)→(∀ c,cs.lookup x=some c→c=a)→(names.foldl (clStep env) cs).lookup x=some a
 | [],cs,h,_=>h.elim (fun z=>by cases z) id
 | y::r,cs,h,hc=>by
  rw [List.foldl_cons]
  by_cases hy:y.2=.free∧y.1=x
  ·have e2:clStep env cs y=(x,a)::cs:=by unfold clStep; rw [hy.2,ha,hy.1]; rfl
   rw [e2]
   have el:((x,a)::cs).lookup x=some a:=by rw [List.lookup_cons]; simp
   exact clFold_has ha r _ (.inr el) fun c z=>by rw [el] at z; exact (Option.some.inj z).symm
  ·have same:(clStep env cs y).lookup x=cs.lookup x:=by
    unfold clStep
    split
    ·rename_i hk
     split
     ·have hne:(x == y.1)=false:=by
       cases hb:x == y.1 with
       | false=>rfl
       | true=>exact absurd ⟨by simpa using hk,(beq_iff_eq.mp hb).symm⟩ hy
      rw [List.lookup_cons,hne]
     ·rfl
    ·rfl
   refine clFold_has ha r _ ?_ (by rw [same]; exact hc)
   rw [same]
   rcases h with z | z
   ·rcases List.mem_cons.mp z with e | z
    ·exact absurd ⟨by rw [← e],by rw [← e]⟩ hy
    ·exact .inl z
   ·exact .inr z
theorem clOf_has {scope:Scope} {env:Env} {x:Str} {a:Addr} (ha:env.cells.lookup x=some a) (hx:(x,NameKind.free)∈scope.names):(clOf scope env).lookup x=some a :=
 clFold_has ha _ _ (.inl hx) fun c z=>by cases z
theorem cf_lookup {x:Str} {c:Addr}:∀ (names:List (Str×NameKind)) (n:Nat) (acc:List (Str×Addr)),(cellsFrom n names acc).lookup x=some c→(n≤c∧(x,NameKind.cell)∈names)∨acc.lookup x=some c
 | [],_,_,h=>.inr h
 | (y,k)::r,n,acc,h=>by
  unfold cellsFrom at h
  split at h
  ·rename_i hk
   have hk':k=.cell:=by simpa using hk
   rcases cf_lookup r _ _ h with ⟨z1,z2⟩ | z
   ·exact .inl ⟨by omega,List.mem_cons_of_mem _ z2⟩
   ·rw [List.lookup_cons] at z
    cases hb:x == y with
    | true =>
     rw [hb] at z
     cases z
     exact .inl ⟨Nat.le_refl _,by rw [hk',beq_iff_eq.mp hb]; exact List.mem_cons_self⟩
    | false =>
     rw [hb] at z
     exact .inr z
  ·rcases cf_lookup r _ _ h with ⟨z1,z2⟩ | z
   ·exact .inl ⟨z1,List.mem_cons_of_mem _ z2⟩
   ·exact .inr z
theorem cf_inj:∀ (names:List (Str×NameKind)) (n:Nat) (acc:List (Str×Addr)),(∀ x c,acc.lookup x=some c→c < n)→(∀ x y c,acc.lookup x=some c→acc.lookup y=some c→x=y) →
  ∀ x y c,(cellsFrom n names acc).lookup x=some c→(cellsFrom n names acc).lookup y=some c→x=y
 | [],_,_,_,h2=>h2
 | (z,k)::r,n,acc,h1,h2=>by
  unfold cellsFrom
  split
  ·have lk:∀ x c,List.lookup x ((z,n)::acc)=some c→(x=z∧c=n)∨acc.lookup x=some c:=fun x c e=>by
    rw [List.lookup_cons] at e
    cases hb:x == z with
    | true=>rw [hb] at e; cases e; exact .inl ⟨beq_iff_eq.mp hb,rfl⟩
    | false=>rw [hb] at e; exact .inr e
   refine cf_inj r (n+1) _ (fun x c e=>?_) fun x y c e e'=>?_
   ·rcases lk x c e with ⟨_,q⟩ | q
    ·rw [q]; exact Nat.lt_succ_self _
    ·exact Nat.lt_succ_of_lt (h1 x c q)
   ·rcases lk x c e with ⟨q1,q2⟩ | q <;> rcases lk y c e' with ⟨p1,p2⟩ | p
    ·rw [q1,p1]
    ·exact absurd (h1 y c p) (by rw [q2]; exact Nat.lt_irrefl _)
    ·exact absurd (h1 x c q) (by rw [p2]; exact Nat.lt_irrefl _)
    ·exact h2 x y c q p
  ·exact cf_inj r n acc h1 h2
theorem cf_has {x:Str}:∀ (names:List (Str×NameKind)) (n:Nat) (acc:List (Str×Addr)),((x,NameKind.cell)∈names∨∃ c,acc.lookup x=some c)→∃ c,(cellsFrom n names acc).lookup x=some c
 | [],_,_,h=>h.elim (fun z=>by cases z) id
 | (y,k)::r,n,acc,h=>by
  unfold cellsFrom
  split
  ·rename_i hk
   refine cf_has r _ _ ?_
   by_cases hx:x=y
   ·exact .inr ⟨n,by rw [List.lookup_cons,hx]; simp⟩
   ·have hb:(x == y)=false:=beq_eq_false_iff_ne.mpr hx
    rcases h with z | ⟨c,z⟩
    ·rcases List.mem_cons.mp z with e | z
     ·exact absurd (Prod.mk.inj e).1 hx
     ·exact .inl z
    ·exact .inr ⟨c,by rw [List.lookup_cons,hb]; exact z⟩
  ·rename_i hk
   refine cf_has r _ _ ?_
   rcases h with z | z
   ·rcases List.mem_cons.mp z with e | z
    ·exact absurd (by rw [← (Prod.mk.inj e).2]; rfl) hk
    ·exact .inl z
   ·exact .inr z
theorem pc_cell {x:Str} {c:Addr}:∀ (names:List (Str×NameKind)) (h:Heap) (acc:List (Str×Addr)),(∀ x c,acc.lookup x=some c→∃ v,h.IsCell c v)→(cellsFrom h.objs.size names acc).lookup x=some c→∃ v,(pushCells h names).IsCell c v
 | [],h,acc,ha,e=>ha x c e
 | (y,k)::r,h,acc,ha,e=>by
  unfold cellsFrom at e
  unfold pushCells
  split at e
  ·rename_i hk
   rw [if_pos hk]
   rw [show h.objs.size+1=(h.push { cls:=.type "cell",data:=.cell none }).objs.size from (Heap.size_push ..).symm] at e
   refine pc_cell r _ _ (fun x' c' e'=>?_) e
   rw [List.lookup_cons] at e'
   cases hb:x' == y with
   | true=>rw [hb] at e'; cases e'; exact ⟨_,_,Heap.get?_push_size _ rfl,rfl⟩
   | false =>
    rw [hb] at e'
    obtain ⟨v,z⟩:=ha x' c' e'
    exact ⟨v,z.keeps fun b o q=>Heap.get?_push_of_some _ q⟩
  ·rename_i hk
   rw [if_neg hk]
   exact pc_cell r _ _ ha e
section
variable {M:Model} {A:Around} {E:Value→Shared→Prop} {s:Shared}
theorem wp_newEnvA {scope:Scope} {globals:Addr} {closure:List (Str×Addr)} {qual:Str} {outer:Env} {Q:Env→Shared→Prop}
  (hQ:Q (newEnv scope s.heap.objs.size globals (cellsFrom (s.heap.objs.size+1) scope.names closure) qual none .none (some outer) builtinsNs) { s with heap:=pushCells (s.heap.push { cls:=.type "dict",data:=.dict #[] }) scope.names }) :
  wpAny M A (newFunctionEnv scope globals closure [] qual none .none (some outer)) Q E s:=by
 simp only [newFunctionEnv,Option.isSome_some,if_true]
 refine wpAny_bind (wpAny_alloc ?_)
 refine wpAny_bind (wpAny_layCells _ (fun name kind cells=>by cases hkc:kind == NameKind.cell <;> simp [hkc]) _ _ _ _ ?_)
 rw [show ({ s with heap:=s.heap.push { cls:=.type "dict",data:=.dict #[] } }:Shared).heap.objs.size=s.heap.objs.size+1 from Heap.size_push ..]
 exact wpAny_bind (wpAny_pure (wpAny_pure hQ))
end
section
variable {prog:Program} {w:World} {A:Around} {s:Shared}
abbrev NoX:Value→Shared→Prop:=fun _ _=>False
theorem toE {α:Type} {M:Model} {A:Around} {t:Sem α} {Q Q':α→Shared→Prop} {E:Value→Shared→Prop} {s:Shared} (h:wpAny M A t Q NoX s) (hQ:∀ a s,Q a s→Q' a s):wpAny M A t Q' E s :=
 wpAny_mono h hQ fun _ _ z=>z.elim
theorem compLoop_gen {elt target iter:Expr} {ifs:List Expr} {scope:Scope} {pos:Pos} {it acc:Value} {env:Env} {R:Result→Shared→Prop} (I:Nat→Shared→Prop)
  (turn:∀ n s,I n s→wpAny (model prog w) A (pyNext it) (fun r s₁=>match r with
   | none=>R (.ok .next) s₁
   | some v=>wpAny (model prog w) A (letOwnedTupleGo target it v) (fun _ s₂=>wpAny (model prog w) A (assign target env v) (fun _ s₃ =>
     wpAny (model prog w) A (forIn ifs true fun c r=>if r=true then do let ok ← isTrue c env (eval c env); pure (ForInStep.yield ok) else pure (ForInStep.yield r)) (fun ok s₄ =>
      if ok=true then wpAny (model prog w) A (eval elt env) (fun x s₅=>wpAny (model prog w) A (call (.builtin "list.append") [acc,x]) (fun _ s₆=>∃ m,m < n∧I m s₆) NoX s₅) NoX s₄
      else ∃ m,m < n∧I m s₄) NoX s₃) NoX s₂) NoX s₁) NoX s)
  (n:Nat) (h:I n s):codeAny (model prog w) A (.compLoop (.ListComp elt [⟨target,iter,ifs,0⟩] scope pos) 0 it acc env) R s:=by
 refine codeAny_loop rfl I (fun n s hI=>?_) n h
 show wpAny _ A ((compTurn (.ListComp elt [⟨target,iter,ifs,0⟩] scope pos) 0 it acc env).onRaise (fun x=>do noteFrame x env; theTreesLotGoes x)) _ _ s
 refine wpAny_noted ?_
 rw [compTurn_list]
 refine wpAny_bind (wpAny_standAt (wpAny_bind (toE (turn n s hI) fun r s₁ h₁=>?_)))
 cases r with
 | none=>exact wpAny_pure h₁
 | some v =>
  refine wpAny_bind (toE h₁ fun _ s₂ h₂=>wpAny_bind (toE h₂ fun _ s₃ h₃=>wpAny_bind (toE h₃ fun ok s₄ h₄=>?_)))
  cases ok with
  | false=>exact wpAny_pure ⟨rfl,h₄⟩
  | true=>exact wpAny_bind (wpAny_bind (toE h₄ fun x s₅ h₅=>wpAny_bind (toE h₅ fun _ s₆ h₆=>wpAny_pure (wpAny_pure ⟨rfl,h₆⟩))))
end
noncomputable def Cx.blk (X:Cx) (N:List Str) (scope:Scope) (cells:List (Str×Addr)) (C:Addr) (s:Shared) (H:Hp) (ex:List Addr):Cx :=
 { X with N:=N,s₀:=s,H₀:=H,env:=compEnvC scope cells C X.env,outer:=X.stack,stack:=X.stack,ex:=ex,fn:=fun x=>scope.names.any fun y=>y.1 == x && y.2 == .cell,pn:=[],xe:=NoX }
noncomputable def blkSt (src:List (Option Nat)) (σ:St):St:=src.map fun o=>o.bind fun j=>(σ[j]?).join
noncomputable def capOk (sc out:Scope):Bool:=sc.names.all fun x=>x.2 != .free || (out.names.lookup x.1 == some .cell || out.names.lookup x.1 == some .free)
noncomputable def blkOk:List Str→List (Option Nat)→List Str→Scope→Bool
 | [],[],_,_=>true
 | x::N,o::src,M,sc=>(match o with | none=>true | some j=>M[j]? == some x && sc.names.lookup x == some .free) && blkOk N src M sc
 | _,_,_,_=>false
noncomputable def scOk (sc:Scope):Bool:=sc.kind == .function && sc.names.all fun x=>sc.names.lookup x.1 == some x.2
theorem blkOk_len:∀ {N:List Str} {src:List (Option Nat)} {M:List Str} {sc:Scope},blkOk N src M sc=true→src.length=N.length
 | [],[],_,_,_=>rfl
 | _::N,_::src,M,sc,h=>by
  unfold blkOk at h
  rw [Bool.and_eq_true] at h
  rw [List.length_cons,List.length_cons,blkOk_len h.2]
 | [],_::_,_,_,h=>by simp [blkOk] at h
 | _::_,[],_,_,h=>by simp [blkOk] at h
theorem blkOk_get:∀ {N:List Str} {src:List (Option Nat)} {M:List Str} {sc:Scope} {i:Nat} {x:Str} {j:Nat},blkOk N src M sc=true→N[i]?=some x→src[i]?=some (some j)→M[j]?=some x∧sc.names.lookup x=some .free
 | [],[],_,_,_,_,_,_,h,_=>by simp at h
 | y::N,o::src,M,sc,0,x,j,h,h1,h2=>by
  unfold blkOk at h
  rw [Bool.and_eq_true] at h
  simp at h1 h2
  subst h1 h2
  have q:=h.1
  rw [Bool.and_eq_true] at q
  exact ⟨beq_iff_eq.mp q.1,beq_iff_eq.mp q.2⟩
 | y::N,o::src,M,sc,i+1,x,j,h,h1,h2=>by
  unfold blkOk at h
  rw [Bool.and_eq_true] at h
  exact blkOk_get h.2 (by simpa using h1) (by simpa using h2)
 | [],_::_,_,_,_,_,_,h,_,_=>by simp [blkOk] at h
 | _::_,[],_,_,_,_,_,h,_,_=>by simp [blkOk] at h
theorem blkSt_get {src:List (Option Nat)} {σ:St} {i:Nat} {v:V} (h:(blkSt src σ)[i]?=some (some v)):∃ j,src[i]?=some (some j)∧σ[j]?=some (some v):=by
 unfold blkSt at h
 rw [List.getElem?_map] at h
 cases e:src[i]? with
 | none=>rw [e] at h; cases h
 | some o =>
  rw [e] at h
  cases o with
  | none=>cases h
  | some j =>
   refine ⟨j,rfl,?_⟩
   have h':(σ[j]?).join=some v:=Option.some.inj h
   cases q:σ[j]? with
   | none=>rw [q] at h'; cases h'
   | some z=>rw [q] at h'; rw [show z=some v from h']
theorem lookup_relabel {env:Env}:∀ {names:List (Str×NameKind)} {x:Str} {k:NameKind},
  (names.map fun (n,k)=>if (k == NameKind.free && env.scope.kind == .function && env.kindOf n == some .cell) then (n,NameKind.cell) else (n,k)).lookup x=some k →
  ∃ k',names.lookup x=some k'∧(k=k'∨(k'=.free∧k=.cell))
 | [],_,_,h=>by cases h
 | (n,k0)::r,x,k,h=>by
  rw [List.map_cons,List.lookup_cons] at h
  rw [List.lookup_cons]
  dsimp only at h
  split at h
  ·rename_i h0
   have hb:x == n:=by
    split at h0 <;> exact h0
   rw [hb]
   refine ⟨k0,rfl,?_⟩
   split at h
   ·rename_i hc
    cases h
    simp only [Bool.and_eq_true] at hc
    exact .inr ⟨by simpa using hc.1.1,rfl⟩
   ·cases h
    exact .inl rfl
  ·rename_i h0
   have hb:(x == n)=false:=by
    split at h0 <;> exact h0
   rw [hb]
   exact lookup_relabel h
theorem lookup_relabel_to {env:Env}:∀ {names:List (Str×NameKind)} {x:Str} {k':NameKind},names.lookup x=some k' →
  ∃ k,(names.map fun (n,k)=>if (k == NameKind.free && env.scope.kind == .function && env.kindOf n == some .cell) then (n,NameKind.cell) else (n,k)).lookup x=some k∧(k=k'∨(k'=.free∧k=.cell))
 | [],_,_,h=>by cases h
 | (n,k0)::r,x,k',h=>by
  rw [List.lookup_cons] at h
  rw [List.map_cons]
  by_cases hc:(k0 == NameKind.free && env.scope.kind == .function && env.kindOf n == some .cell)=true
  ·simp only [hc,if_true]
   rw [List.lookup_cons]
   cases hb:x == n with
   | true =>
    rw [hb] at h
    cases h
    simp only [Bool.and_eq_true] at hc
    exact ⟨_,rfl,.inr ⟨by simpa using hc.1.1,rfl⟩⟩
   | false=>rw [hb] at h; exact lookup_relabel_to h
  ·simp only [if_neg hc]
   rw [List.lookup_cons]
   cases hb:x == n with
   | true=>rw [hb] at h; cases h; exact ⟨_,rfl,.inl rfl⟩
   | false=>rw [hb] at h; exact lookup_relabel_to h
def PIf (X:Cx) (ifs:List Expr) (t:TT):Prop :=
 ∀ (pins:List (Addr×Obj)) (s:Shared) (σ:St) (H:Hp) (Q:Bool→Hp→Prop),Inv X pins σ H s→t σ H Q →
  wpAny (model X.prog X.w) X.A (forIn ifs true fun c r=>if r=true then do let ok ← isTrue c X.env (eval c X.env); pure (ForInStep.yield ok) else pure (ForInStep.yield r)) (TP X pins σ Q) X.xe s
def tTrue:TT:=fun _ H Q=>Q true H
theorem pif_nil {X:Cx}:PIf X [] tTrue:=fun pins s σ H Q I h=>wpAny_tests_nil ⟨H,I,h⟩
theorem pif_one {X:Cx} {c:Expr} {t:TT} (h:PT X c t):PIf X [c] t:=fun pins s σ H Q I q=>wpAny_tests_one (h pins s σ H Q I q)
def Sub (σ σ':St):Prop:=σ.length=σ'.length∧∀ (i:Nat) (v:V),σ[i]?=some (some v)→σ'[i]?=some (some v)
def CompW (src:List (Option Nat)) (g:TG) (tt:TT) (te:TE) (σ:St) (Q:VK) (J:It) (H1:Hp):Prop :=
 ∃ W:Nat→Nat→List V→Hp→Prop,(∃ m,W 0 m [] H1)∧∀ i m ys H,W i m ys H →
  (J.stop i H∧ys.length≤sizeLine∧∀ p,H p=none→Q (.ref p) (upd H p (.lst ys))) ∨
  (J.go i H∧ys.length < sizeLine∧∃ N:List V→Hp→Prop,(∀ zs H',N zs H'→∃ m',m' < m∧W (i+1) m' zs H')∧∀ x H',J.yld i H x H'→g x (blkSt src σ) H' fun σ2 H2=>Sub (blkSt src σ) σ2∧tt σ2 H2 fun b H3 =>
   if b=true then te σ2 H3 fun v H4=>N (ys++[v]) H4 else N ys H3)
def tComp (src:List (Option Nat)) (wi:TI) (g:TG) (tt:TT) (te:TE):TE:=fun σ H Q=>wi σ H (CompW src g tt te σ Q)
section
variable {X:Cx} {pins:List (Addr×Obj)} {σ:St} {H:Hp} {s:Shared}
theorem Inv.block {N:List Str} {src:List (Option Nat)} {scope:Scope} {fp:List Addr} (I:Inv X pins σ H s) (hf:∀ b∈fp,FpOk X pins H b) (ho:∀ b∈fp,∃ o,s.heap.get? b=some o)
  (hcap:capOk scope X.env.scope=true) (hblk:blkOk N src X.N scope=true) (hsc:scOk scope=true) {lo:Obj} :
  Inv (X.blk N scope (cellsFrom (s.heap.objs.size+2) scope.names (clOf scope X.env)) (s.heap.objs.size+1) s H fp) [] (blkSt src σ) H
   { s with heap:=pushCells ((s.heap.push lo).push { cls:=.type "dict",data:=.dict #[] }) scope.names }:=by
 unfold scOk at hsc
 rw [Bool.and_eq_true] at hsc
 have hkind:scope.kind=.function:=by simpa using hsc.1
 have hnd:∀ x∈scope.names,scope.names.lookup x.1=some x.2:=fun x hx=>by simpa using List.all_eq_true.mp hsc.2 x hx
 have hfree:∀ x∈scope.names,x.2=.free→X.env.kindOf x.1=some .cell∨X.env.kindOf x.1=some .free:=fun x hx hk=>by
  have q:=List.all_eq_true.mp hcap x hx
  rw [hk] at q
  have q':(X.env.scope.names.lookup x.1 == some .cell || X.env.scope.names.lookup x.1 == some .free)=true:=by simpa using q
  rw [Bool.or_eq_true] at q'
  exact q'.imp (fun z=>beq_iff_eq.mp z) fun z=>beq_iff_eq.mp z
 have keep:∀ b o,s.heap.get? b=some o→(pushCells ((s.heap.push lo).push { cls:=.type "dict",data:=.dict #[] }) scope.names).get? b=some o:=fun b o e =>
  pushCells_keeps _ _ _ _ (Heap.get?_push_of_some _ (Heap.get?_push_of_some _ e))
 have clc:∀ x c,(clOf scope X.env).lookup x=some c→c < s.heap.objs.size:=fun x c e=>by
  obtain ⟨v,z⟩:=I.cell x c (clOf_of e)
  exact z.lt
 have cases':∀ x c,(cellsFrom (s.heap.objs.size+2) scope.names (clOf scope X.env)).lookup x=some c→(s.heap.objs.size+2≤c∧(x,NameKind.cell)∈scope.names)∨X.env.cells.lookup x=some c:=fun x c e =>
  (cf_lookup _ _ _ e).imp id clOf_of
 have kof:∀ x k,(compEnvC scope (cellsFrom (s.heap.objs.size+2) scope.names (clOf scope X.env)) (s.heap.objs.size+1) X.env).kindOf x=some k→∃ k',scope.names.lookup x=some k'∧(k=k'∨(k'=.free∧k=.cell)):=fun x k e =>
  lookup_relabel (env:=X.env) e
 have mem:∀ {x k},scope.names.lookup x=some k→(x,k)∈scope.names:=fun e=>mem_of_lookup e
 refine ⟨⟨I.ok.mod,?_,I.ok.glob,I.ok.blt,?_,?_,?_,?_,I.ok.hd,I.ok.frames,.inl rfl,?_,I.bs,Nat.le_trans I.ok.bsz I.sz,?_,?_,I.stack,I.stkFree⟩,rfl,I.bare,Un.kept keep,?_,?_,?_,?_,?_,I.hok.kept keep,?_⟩
 ·exact hkind
 ·exact Nat.le_succ _
 ·-- inj
  refine cf_inj _ _ _ (fun x c e=>?_) fun x y c e e'=>I.ok.inj x y c (clOf_of e) (clOf_of e')
  exact Nat.lt_of_lt_of_le (clc x c e) (Nat.le_add_right _ 2)
 ·-- has
  intro x hx
  refine cf_has _ _ _ ?_
  have hk:∃ k',scope.names.lookup x=some k'∧(k'=.cell∨k'=.free):=by
   rcases hx with hx | hx
   ·obtain ⟨k',e,z⟩:=kof x _ hx
    exact ⟨k',e,z.elim (fun z=>.inl z.symm) fun z=>.inr z.1⟩
   ·obtain ⟨k',e,z⟩:=kof x _ hx
    exact ⟨k',e,z.elim (fun z=>.inr z.symm) fun z=>by cases z.2⟩
  obtain ⟨k',e,rfl | rfl⟩:=hk
  ·exact .inl (mem e)
  ·obtain ⟨a,ha⟩:=I.ok.has x (hfree _ (mem e) rfl)
   exact .inr ⟨a,clOf_has ha (mem e)⟩
 ·-- cab
  intro x c hx e
  rcases cases' x c e with z | z
  ·exact Nat.le_trans (Nat.le_add_right _ 2) z.1
  ·-- x is the block's own cell, so it is not in the closure's part
   exfalso
   obtain ⟨y,hy,hyx⟩:=List.any_eq_true.mp hx
   rw [Bool.and_eq_true] at hyx
   have e1:y.1=x:=beq_iff_eq.mp hyx.1
   have e2:y.2=.cell:=by simpa using hyx.2
   have l1:scope.names.lookup x=some .cell:=by rw [← e1,← e2]; exact hnd y hy
   rcases cf_lookup _ _ _ e with q | q
   ·obtain ⟨v,z'⟩:=I.cell x c z
    exact absurd (Nat.lt_of_lt_of_le z'.lt (Nat.le_trans (Nat.le_add_right _ 2) q.1)) (Nat.lt_irrefl _)
   ·-- the closure holds free names alone
    have fr:∀ (names:List (Str×NameKind)) (cs:List (Str×Addr)),(names.foldl (clStep X.env) cs).lookup x=some c→(x,NameKind.free)∈names∨cs.lookup x=some c:=by
     intro names
     induction names with
     | nil=>intro cs h; exact .inr h
     | cons n r ih =>
      intro cs h
      rw [List.foldl_cons] at h
      rcases ih _ h with w | w
      ·exact .inl (List.mem_cons_of_mem _ w)
      ·unfold clStep at w
       split at w
       ·rename_i hk
        split at w
        ·rw [List.lookup_cons] at w
         cases hb:x == n.1 with
         | true =>
          have:n=(x,NameKind.free):=Prod.ext (beq_iff_eq.mp hb).symm (by simpa using hk)
          exact .inl (by rw [this]; exact List.mem_cons_self)
         | false=>rw [hb] at w; exact .inr w
        ·exact .inr w
       ·exact .inr w
    rcases fr _ _ q with w | w
    ·have:=hnd _ w
     rw [l1] at this
     cases this
    ·cases w
 ·-- exf
  intro b hb
  obtain ⟨o,e⟩:=ho b hb
  have lt:=Heap.lt_size e
  refine ⟨Nat.ne_of_lt (Nat.lt_succ_of_lt lt),fun x c hc=>?_⟩
  rcases cases' x c hc with z | z
  ·exact Nat.ne_of_gt (Nat.lt_of_lt_of_le lt (Nat.le_trans (Nat.le_add_right _ 2) z.1))
  ·exact (hf b hb).2.2.2.2.1 x c z
 ·-- noex
  intro b o e hb
  rcases (hf b hb).2.2.2.1 with z | z
  ·exact I.ok.noex b o e z
  ·exact absurd (Nat.lt_of_lt_of_le (Heap.lt_size (I.ok.bs b o e).1) z) (Nat.lt_irrefl _)
 ·-- exfs
  intro b hb z
  rcases List.mem_cons.mp (I.stkSub b z) with q | q
  ·exact (hf b hb).2.1 q
  ·exact (hf b hb).2.2.1 q
 ·-- loc
  refine ⟨fun _=>none,?_,fun i x v e1 e2 e3=>?_⟩
  ·have:=(Heap.Ns.new (s.heap.push lo) (.type "dict")).keeps (pushCells_keeps scope.names _)
   rw [Heap.size_push] at this
   exact this
  ·obtain ⟨j,e4,e5⟩:=blkSt_get e2
   obtain ⟨e6,e7⟩:=blkOk_get hblk e1 e4
   obtain ⟨m,_,hl⟩:=I.loc
   have hk:=hfree _ (mem e7) rfl
   have hv:Vis X.env.scope x:=.inr (hk.imp id id)
   obtain ⟨u,r,l⟩:=hl j x v e6 e5 hv
   refine ⟨u,r,.inr ⟨?_,?_⟩⟩
   ·obtain ⟨k,q,z⟩:=lookup_relabel_to (env:=X.env) e7
    rcases z with z | z
    ·exact .inr (by rw [← z]; exact q)
    ·exact .inl (by rw [← z.2]; exact q)
   ·rcases l with l | ⟨_,c,hc,z⟩
    ·exfalso
     rcases hk with hk | hk <;> rw [l.1] at hk <;> cases hk
    ·refine ⟨c,?_,z.keeps keep⟩
     have own:¬ (x,NameKind.cell)∈scope.names:=fun w=>by
      have:=hnd _ w
      rw [e7] at this
      cases this
     obtain ⟨c',q⟩:=cf_has (x:=x) scope.names (s.heap.objs.size+2) (clOf scope X.env) (.inr ⟨c,clOf_has hc (mem e7)⟩)
     rcases cases' x c' q with w | w
     ·exact absurd w.2 own
     ·rw [hc] at w
      cases w
      exact q
 ·-- cell
  intro x c e
  have e':(cellsFrom ((s.heap.push lo).push { cls:=.type "dict",data:=.dict #[] }).objs.size scope.names (clOf scope X.env)).lookup x=some c:=by
   rw [Heap.size_push,Heap.size_push]; exact e
  refine pc_cell _ _ _ (fun x' c' q=>?_) e'
  obtain ⟨v,z⟩:=I.cell x' c' (clOf_of q)
  exact ⟨v,z.keeps fun b o q=>Heap.get?_push_of_some _ (Heap.get?_push_of_some _ q)⟩
 ·exact I.hok.fresh (Nat.le_succ _)
 ·intro x c e
  rcases cases' x c e with z | z
  ·exact I.hok.fresh (Nat.le_trans (Nat.le_add_right _ 2) z.1)
  ·exact I.freeC x c z
 ·intro p hp
  cases hp
 ·show (blkSt src σ).length=N.length
  unfold blkSt
  rw [List.length_map]
  exact blkOk_len hblk
theorem Inv.unblock {N:List Str} {scope:Scope} {cells:List (Str×Addr)} {C acc:Addr} {fp:List Addr} {pins':List (Addr×Obj)} {σ':St} {H':Hp} {s':Shared} {h':Heap} {ys:List V} {us:List Value} {n:Nat}
  (I:Inv X pins σ H s) (hf:∀ b∈fp,FpOk X pins H b) (hC:s.heap.objs.size≤C) (ha:s.heap.objs.size≤acc) (hne:acc≠C) (J:Inv (X.blk N scope cells C s H fp) pins' σ' H' s')
  (hn:H' acc=none) (hl:s'.heap.get? acc=some { cls:=.type "list",data:=.seq us.toArray n }) (hv:Vals ys us) (hz:ys.length≤sizeLine) (hb:Heap.SameBut C s'.heap h') :
  Inv X pins σ (upd H' acc (.lst ys)) { s' with heap:=h' }:=by
 have base:Un (frs X.stack) fp H H' s.heap s'.heap:=J.base
 have kp:∀ b o,b≠C→s'.heap.get? b=some o→h'.get? b=some o:=fun b o q e=>hb.extBut b o q e
 have old:∀ b o,s.heap.get? b=some o→b≠C∧b≠acc:=fun b o e=>by
  have:=Heap.lt_size e
  exact ⟨Nat.ne_of_lt (Nat.lt_of_lt_of_le this hC),Nat.ne_of_lt (Nat.lt_of_lt_of_le this ha)⟩
 have frC:H' C=none:=J.free
 have hacc:H acc=none:=I.hok.fresh ha
 have hokh:HOk X.prog X.w H' s'.heap:=J.hok
 have ok':HOk X.prog X.w (upd H' acc (.lst ys)) h':=by
  intro b o e
  by_cases hba:b=acc
  ·subst hba
   rw [upd_same] at e
   cases e
   exact ⟨hz,us,n,hv,kp _ _ hne hl⟩
  ·rw [upd_ne hba] at e
   refine (hokh b o e).stay (fun c u hc q=>kp c u ?_ q) (fun c q=>?_) fun c xs q=>?_
   ·rintro rfl
    rcases hc with rfl | hc
    ·rw [frC] at e; cases e
    ·rw [frC] at hc; cases hc
   ·rw [upd_ne (by rintro rfl; rw [hn] at q; cases q)]; exact q
   ·rw [upd_ne (by rintro rfl; rw [hn] at q; cases q)]; exact q
 have neA:∀ b u,H b=some u→b≠acc:=fun b u e=>by rintro rfl; rw [hacc] at e; cases e
 refine I.call' (s':={ s' with heap:=h' }) (ch:=fp) (J.os) ⟨fun b o e q r t=>?_,fun b o e q r t=>?_,fun b o e q t=>?_,fun b o e t=>?_,fun b xs e=>?_,fun b o u e=>?_,fun b ps e=>?_⟩ ok' J.bare fun b hb=>?_
 ·exact kp b o (old b o e).1 (base.keep b o e q r t)
 ·obtain ⟨sl,z⟩:=base.slot b o e q r t
  exact ⟨sl,kp b _ (old b o e).1 z⟩
 ·rw [upd_ne (old b o e).2]
  exact base.free b o e q t
 ·obtain ⟨o',z⟩:=base.there b o e t
  exact ⟨o',kp b _ (old b o e).1 z⟩
 ·rw [upd_ne (neA b _ e)]
  exact base.tups b xs e
 ·rw [upd_ne (neA b _ e)]
  exact base.frzs b o u e
 ·rw [upd_ne (neA b _ e)]
  exact base.tbls b ps e
 ·obtain ⟨_,h1,_,h3,h4,h5⟩:=hf b hb
  exact ⟨h3,h1,h4,h5⟩
set_option maxHeartbeats 4000000 in
theorem comp_core {tg iter elt:Expr} {ifs:List Expr} {scope:Scope} {pos:Pos} {N:List Str} {src:List (Option Nat)} {wi:TI} {g:TG} {tt:TT} {te:TE} {Q:VK} {RR:Value→Addr→Result→Shared→Prop} (hc:X.calm=true) (hi:PI X tg iter wi)
  (hcap:capOk scope X.env.scope=true) (hblk:blkOk N src X.N scope=true) (hsc:scOk scope=true)
  (hg:∀ cells C s H ex,PG (X.blk N scope cells C s H ex) tg g) (ht:∀ cells C s H ex,PIf (X.blk N scope cells C s H ex) ifs tt) (he:∀ cells C s H ex,PE (X.blk N scope cells C s H ex) elt te)
  (I:Inv X pins σ H s) (h:tComp src wi g tt te σ H Q)
  (hend:∀ (s2 s4:Shared) (H2 H4:Hp) (fp:List Addr) (cells:List (Str×Addr)) (pl:List (Addr×Obj)) (σ4:St) (ys:List V) (us:List Value) (k:Nat),Inv X pins σ H2 s2→(∀ b∈fp,FpOk X pins H2 b) →
   Inv (X.blk N scope cells (s2.heap.objs.size+1) s2 H2 fp) pl σ4 H4 s4→H4 s2.heap.objs.size=none→s4.heap.get? s2.heap.objs.size=some { cls:=.type "list",data:=.seq us.toArray k }→Vals ys us→ys.length≤sizeLine →
   Q (.ref s2.heap.objs.size) (upd H4 s2.heap.objs.size (.lst ys))→RR (.ref s2.heap.objs.size) (s2.heap.objs.size+1) (.ok .next) s4) :
  wpAny (model X.prog X.w) X.A (eval iter X.env) (fun x s₁=>wpAny (model X.prog X.w) X.A (pyIter x) (fun it s₂=>wpAny (model X.prog X.w) X.A (newList []) (fun acc s₃ =>
   wpAny (model X.prog X.w) X.A (newFunctionEnv scope X.env.globals (clOf scope X.env) [] X.env.qual none .none (some X.env)) (fun cenv s₄ =>
    codeAny (model X.prog X.w) X.A (.compStart (.ListComp elt [⟨tg,iter,ifs,0⟩] scope pos) 0 it acc { cenv with scope:=relabel scope X.env }) (RR acc cenv.locals) s₄) X.xe s₃) X.xe s₂) X.xe s₁) X.xe s:=by
 refine thn (hi pins s σ H _ I h) fun v s1 h1=>thn h1 fun itv s2 h2=>?_
 obtain ⟨it,fp,tn,J,H2,e,I2,T,st2,f2,W,⟨m0,w0⟩,turn⟩:=h2
 subst e
 have ho2:∀ b∈fp,∃ o,s2.heap.get? b=some o:=fun b hb=>(T.obj _ _ st2 b hb).imp fun _ q=>q.1
 refine wpAny_newObj_type (wp_newEnvA ?_)
 have hB:=I2.block (lo:={ cls:=.type "list",dict:=none,data:=.seq ([]:List Value).toArray }) f2 ho2 hcap hblk hsc
 rw [show ({ s2 with heap:=s2.heap.push { cls:=.type "list",dict:=none,data:=.seq ([]:List Value).toArray } }:Shared).heap.objs.size=s2.heap.objs.size+1 from Heap.size_push ..]
 generalize hcells:cellsFrom (s2.heap.objs.size+1+1) scope.names (clOf scope X.env)=cells at hB ⊢
 generalize hheap:pushCells ((s2.heap.push { cls:=.type "list",dict:=none,data:=.seq ([]:List Value).toArray }).push { cls:=.type "dict",data:=.dict #[] }) scope.names=h4 at hB ⊢
 have keep4:∀ b o,s2.heap.get? b=some o→h4.get? b=some o:=fun b o q=>by
  rw [← hheap]; exact pushCells_keeps _ _ _ _ (Heap.get?_push_of_some _ (Heap.get?_push_of_some _ q))
 have acc4:h4.get? s2.heap.objs.size=some { cls:=.type "list",data:=.seq ([]:List Value).toArray 0 }:=by
  rw [← hheap]; exact pushCells_keeps _ _ _ _ (Heap.get?_push_of_some _ (Heap.get?_push_size _ rfl))
 have st4:tn 0 h4:=T.keep _ _ _ st2 fun b _ o q=>keep4 b o q
 generalize hXc:X.blk N scope cells (s2.heap.objs.size+1) s2 H2 fp=Xc at hB
 have eA:Xc.A=X.A:=by rw [← hXc]; rfl
 have eP:Xc.prog=X.prog:=by rw [← hXc]; rfl
 have ew:Xc.w=X.w:=by rw [← hXc]; rfl
 have eK:Xc.K=X.K:=by rw [← hXc]; rfl
 have ec:Xc.calm=true:=by rw [← hXc]; exact hc
 have ee:Xc.env=compEnvC scope cells (s2.heap.objs.size+1) X.env:=by rw [← hXc]; rfl
 have ex:Xc.ex=fp:=by rw [← hXc]; rfl
 have epn:Xc.pn=[]:=by rw [← hXc]; rfl
 have es0:Xc.s₀=s2:=by rw [← hXc]; rfl
 have exe:Xc.xe=NoX:=by rw [← hXc]; rfl
 have eL:Xc.env.locals=s2.heap.objs.size+1:=by rw [ee]; rfl
 have efs:Xc.fs=frs X.stack:=by rw [← hXc]; rfl
 have okB:=hB.ok
 have cne:∀ x c,Xc.env.cells.lookup x=some c→c≠s2.heap.objs.size:=fun x c q=>by
  rw [ee] at q
  have q':cells.lookup x=some c:=q
  rw [← hcells] at q'
  rcases cf_lookup _ _ _ q' with z | z
  ·exact Nat.ne_of_gt (Nat.lt_of_lt_of_le (Nat.lt_succ_self _) (Nat.le_trans (Nat.le_succ _) z.1))
  ·obtain ⟨v,z'⟩:=I2.cell x c (clOf_of z)
   exact Nat.ne_of_lt z'.lt
 have fpne:∀ b∈fp,b≠s2.heap.objs.size:=fun b hb=>by
  obtain ⟨o,q⟩:=ho2 b hb
  exact Nat.ne_of_lt (Heap.lt_size q)
 have accfs:s2.heap.objs.size ∉ Xc.fs:=by
  rw [efs]
  intro z
  rcases List.mem_cons.mp (I2.stkSub _ z) with q | q
  ·exact absurd I2.lt (by rw [← q]; exact Nat.lt_irrefl _)
  ·exact I2.nofs (Nat.le_refl _) q
 have stat:∀ {H':Hp} {pl:List (Addr×Obj)},(∀ b∈fp,H' b=none)→(∀ p∈pl,p.1=s2.heap.objs.size)→∀ b∈fp,FpOk Xc pl H' b:=fun {H' pl} hn hp b hb=>by
  obtain ⟨x1,x2⟩:=okB.exf b (by rw [ex]; exact hb)
  refine ⟨hn b hb,x1,okB.exfs b (by rw [ex]; exact hb),.inl (by rw [ex]; exact hb),x2,fun p hp'=>?_⟩
  rw [epn,List.nil_append] at hp'
  rw [hp p hp']
  exact (fpne b hb).symm
 have main:∀ s5:Shared,s5={ s2 with heap:=h4 }→codeAny (model X.prog X.w) X.A (.compLoop (.ListComp elt [⟨tg,iter,ifs,0⟩] scope pos) 0 (.ref it) (.ref s2.heap.objs.size) Xc.env)
   (RR (.ref s2.heap.objs.size) (s2.heap.objs.size+1)) s5:=by
  rintro s5 rfl
  refine compLoop_gen (fun n s'=>∃ i H' ys us k,Inv Xc [] (blkSt src σ) H' s'∧tn i s'.heap∧(∀ b∈fp,H' b=none)∧H' s2.heap.objs.size=none ∧
   s'.heap.get? s2.heap.objs.size=some { cls:=.type "list",data:=.seq (us:List Value).toArray k }∧Vals ys us∧W i n ys H') ?_ m0
   ⟨0,H2,[],[],0,hB,st4,fun b hb=>(f2 b hb).1,I2.hok.fresh (Nat.le_refl _),acc4,.nil,w0⟩
  rintro n s3 ⟨i,H3,ys,us,k,I3,st3,fr3,na3,ac3,r3,w3⟩
  rcases turn i n ys H3 w3 with ⟨stop,hz,qn⟩ | ⟨go,hz,Nn,hN,step⟩
  ·have d:=T.done Xc eP ew eK ec i [] s3 (blkSt src σ) H3 NoX I3 (stat fr3 (fun _ z=>by cases z)) st3 stop
   rw [eA] at d
   have I3':Inv Xc [(s2.heap.objs.size,{ cls:=.type "list",data:=.seq us.toArray k })] (blkSt src σ) H3 s3:=I3.pins_of fun p hp=>by
    rw [List.mem_singleton.mp hp]
    exact ⟨ac3,na3,by rw [eL]; exact Nat.ne_of_lt (Nat.lt_succ_self _),accfs,fun v z=>by cases z⟩
   have d:=T.done Xc eP ew eK ec i _ s3 (blkSt src σ) H3 NoX I3' (stat fr3 (fun p z=>by rw [List.mem_singleton.mp z])) st3 stop
   rw [eA] at d
   refine thn d fun r s4 ⟨hr,I4⟩=>?_
   subst hr
   have ac4:=(I4.pin (s2.heap.objs.size,{ cls:=.type "list",data:=.seq us.toArray k }) (List.mem_append_right _ List.mem_cons_self)).1
   rw [← hXc] at I4
   exact hend s2 s4 H2 H3 fp cells _ _ ys us k I2 f2 I4 na3 ac4 r3 hz (qn _ na3)
  ·have I3':Inv Xc [(s2.heap.objs.size,{ cls:=.type "list",data:=.seq us.toArray k })] (blkSt src σ) H3 s3:=I3.pins_of fun p hp=>by
    rw [List.mem_singleton.mp hp]
    exact ⟨ac3,na3,by rw [eL]; exact Nat.ne_of_lt (Nat.lt_succ_self _),accfs,fun v z=>by cases z⟩
   have d:=T.item Xc eP ew eK ec i _ s3 (blkSt src σ) H3 NoX I3' (stat fr3 (fun p z=>by rw [List.mem_singleton.mp z])) st3 go
   rw [eA] at d
   refine thn d fun r s4 ⟨u,hr,h4'⟩=>?_
   subst hr
   refine thn h4' fun _ s5 ⟨x,H5,I5,r5,y5,st5,fr5⟩=>?_
   have I5':=I5.pinned (stat fr5 (fun p z=>by rw [List.mem_singleton.mp z])) (T.obj _ _ st5)
   have hgX:PG Xc tg g:=by rw [← hXc]; exact hg _ _ _ _ _
   have htX:PIf Xc ifs tt:=by rw [← hXc]; exact ht _ _ _ _ _
   have heX:PE Xc elt te:=by rw [← hXc]; exact he _ _ _ _ _
   have a1:=hgX _ s5 _ H5 x u _ I5' r5 (step x H5 y5)
   rw [eP,ew,eA,exe] at a1
   refine thn a1 fun _ s6 ⟨σ6,H6,I6,sb,q6⟩=>?_
   have a2:=htX _ s6 σ6 H6 _ I6 q6
   rw [eP,ew,eA,exe] at a2
   refine thn a2 fun ok s7 ⟨H7,I7,q7⟩=>?_
   have back:∀ {H8:Hp} {s8:Shared} {pl:List (Addr×Obj)},Inv Xc ([(s2.heap.objs.size,{ cls:=.type "list",data:=.seq us.toArray k })]++pinsAt fp s5.heap) σ6 H8 s8 →
     Inv Xc [] (blkSt src σ) H8 s8∧tn (i+1) s8.heap∧(∀ b∈fp,H8 b=none)∧H8 s2.heap.objs.size=none∧s8.heap.get? s2.heap.objs.size=some { cls:=.type "list",data:=.seq us.toArray k }:=fun {H8 s8 pl} I8=>by
    have p0:=I8.pin (s2.heap.objs.size,{ cls:=.type "list",data:=.seq us.toArray k }) (List.mem_append_right _ (List.mem_append_left _ List.mem_cons_self))
    refine ⟨(I8.pins_of (pins':=[]) fun p hp=>by cases hp).weak sb.1 sb.2,T.keep _ _ _ st5 fun b hb o e=>(I8.pin (b,o) (List.mem_append_right _ (List.mem_append_right _ (mem_pinsAt hb e)))).1,fun b hb=>?_,p0.2.1,p0.1⟩
    obtain ⟨o,e,_⟩:=T.obj _ _ st5 b hb
    exact (I8.pin (b,o) (List.mem_append_right _ (List.mem_append_right _ (mem_pinsAt hb e)))).2.1
   cases ok with
   | false =>
    obtain ⟨m',hm,w7⟩:=hN _ _ q7
    obtain ⟨b1,b2,b3,b4,b5⟩:=back (pl:=[]) I7
    exact ⟨m',hm,i+1,H7,ys,us,k,b1,b2,b3,b4,b5,r3,w7⟩
   | true =>
    have a3:=heX _ s7 σ6 H7 _ I7 q7
    rw [eP,ew,eA,exe] at a3
    refine thn a3 fun y s8 ⟨vy,H8,I8,ry,n8⟩=>?_
    obtain ⟨m',hm,w8⟩:=hN _ _ n8
    obtain ⟨b1,b2,b3,b4,b5⟩:=back (pl:=[]) I8
    refine call_meets F.slot_list_append ⟨_,b5,rfl⟩ F.entry_list_append (F.args_list_append_2 _ _) (PySem.list_append s2.heap.objs.size us.toArray k y (by rw [List.size_toArray,← r3.length]; omega)) ⟨b5,?_⟩
    have q:=PySem.IsL.update b5 (fun xs=>xs.push y)
    rw [show us.toArray.push y=(us++[y]).toArray by simp] at q
    have nb:∀ b o,b≠s2.heap.objs.size→s8.heap.get? b=some o→(s8.heap.update s2.heap.objs.size (Obj.mapSeq fun xs=>xs.push y)).get? b=some o:=fun b o hb e =>
     (Heap.get?_update_other s8.heap _ (Ne.symm hb)).trans e
    refine ⟨m',hm,i+1,H8,ys++[vy],us++[y],_,?_,?_,b3,b4,q,r3.append (.cons ry .nil),w8⟩
    ·exact b1.turned nb b4 (by rw [eL]; exact Nat.ne_of_lt (Nat.lt_succ_self _)) (.inr (by rw [es0]; exact Nat.le_refl _)) cne fun p hp=>by rw [epn] at hp; cases hp
    ·exact T.keep _ _ _ b2 fun b hb o e=>nb b o (fpne b hb) e
 have main':=main _ rfl
 rw [ee] at main'
 exact codeAny_compStart_list main' (T.self _ 0 _ _ _ st4 main')
theorem scOk_kind {scope:Scope} (hsc:scOk scope=true):scope.kind=.function∧∀ x∈scope.names,scope.names.lookup x.1=some x.2:=by
 unfold scOk at hsc
 rw [Bool.and_eq_true] at hsc
 exact ⟨by simpa using hsc.1,fun x hx=>by simpa using List.all_eq_true.mp hsc.2 x hx⟩
theorem Inv.clos {scope:Scope} (I:Inv X pins σ H s) (hcap:capOk scope X.env.scope=true):closureFor scope X.env=pure (clOf scope X.env):=clFor_eq fun x hx hk=>by
 have q:=List.all_eq_true.mp hcap x hx
 rw [hk] at q
 have q':(X.env.scope.names.lookup x.1 == some .cell || X.env.scope.names.lookup x.1 == some .free)=true:=by simpa using q
 rw [Bool.or_eq_true] at q'
 exact I.ok.has x.1 (q'.imp (fun z=>beq_iff_eq.mp z) fun z=>beq_iff_eq.mp z)
theorem pe_comp {tg iter elt:Expr} {ifs:List Expr} {scope:Scope} {pos:Pos} {N:List Str} {src:List (Option Nat)} {wi:TI} {g:TG} {tt:TT} {te:TE} (hc:X.calm=true) (hi:PI X tg iter wi)
  (hcap:capOk scope X.env.scope=true) (hblk:blkOk N src X.N scope=true) (hsc:scOk scope=true)
  (hg:∀ cells C s H ex,PG (X.blk N scope cells C s H ex) tg g) (ht:∀ cells C s H ex,PIf (X.blk N scope cells C s H ex) ifs tt) (he:∀ cells C s H ex,PE (X.blk N scope cells C s H ex) elt te)
  (hs:∀ x,foldedSetIterable iter X.env x=pure x:=by intro _; rfl):PE X (.ListComp elt [⟨tg,iter,ifs,0⟩] scope pos) (tComp src wi g tt te):=by
 intro pins s σ H Q I h
 obtain ⟨hkind,hnd⟩:=scOk_kind hsc
 rw [eval_ListComp]
 refine wpAny_comprehension_free (use:=none) rfl hs (I.clos hcap) hkind (fun x hx hk=>by rw [← hk]; exact hnd x hx) (comp_core (RR:=compPost (model X.prog X.w) X.A X.xe none (EP X pins σ Q)) hc hi hcap hblk hsc hg ht he I h ?_)
 intro s2 s4 H2 H4 fp cells pl σ4 ys us k I2 f2 I4 na4 ac4 r4 hz q
 obtain ⟨m,hns,_⟩:=I4.loc
 exact ⟨m,hns,fun h' hb=>⟨.ref s2.heap.objs.size,_,Inv.unblock I2 f2 (Nat.le_succ _) (Nat.le_refl _) (Nat.ne_of_lt (Nat.lt_succ_self _)) I4 na4 ac4 r4 hz hb,rfl,q⟩⟩
theorem ps_setC {i:Nat} {y:Str} {py spos:Pos} {tg iter elt:Expr} {ifs:List Expr} {scope:Scope} {pos:Pos} {N:List Str} {src:List (Option Nat)} {wi:TI} {g:TG} {tt:TT} {te:TE}
  (hN:X.N.Nodup) (hy:X.N[i]?=some y) (hx:Loc X.env.scope y)
  (hc:X.calm=true) (hi:PI X tg iter wi) (hcap:capOk scope X.env.scope=true) (hblk:blkOk N src X.N scope=true) (hsc:scOk scope=true)
  (hg:∀ cells C s H ex,PG (X.blk N scope cells C s H ex) tg g) (ht:∀ cells C s H ex,PIf (X.blk N scope cells C s H ex) ifs tt) (hel:∀ cells C s H ex,PE (X.blk N scope cells C s H ex) elt te)
  (hsw:swapsWith (.ListComp elt [⟨tg,iter,ifs,0⟩] scope pos) (some (.Name y py)) spos.line X.env=pure true:=by rfl) (hs:∀ x,foldedSetIterable iter X.env x=pure x:=by intro _; rfl)
  (hf:X.fn y=true∨X.env.scope.names.lookup y=some .local:=by first | exact .inl rfl | exact .inr rfl | assumption) :
  PS X (.Assign [.Name y py] (.ListComp elt [⟨tg,iter,ifs,0⟩] scope pos) spos) (tAsg (tComp src wi g tt te) (gName i)):=by
 intro pins s σ H D I h
 obtain ⟨hkind,hnd⟩:=scOk_kind hsc
 rw [exec_Assign_Name_used _ _ _ _ hsw]
 refine wpAny_bind (wpAny_standAt (wpAny_bind ?_))
 show wpAny _ X.A (do let _ ← comprehension (.ListComp elt [⟨tg,iter,ifs,0⟩] scope pos) scope X.env _ (newList []) false (eval iter X.env) (some (assign (.Name y py) X.env))) _ _ s
 refine wpAny_bind (wpAny_mono (wpAny_comprehension_free (use:=some (assign (.Name y py) X.env)) (Q:=fun _ s'=>SP X pins D .next s') rfl hs (I.clos hcap) hkind (fun x hx hk=>by rw [← hk]; exact hnd x hx)
  (comp_core (RR:=compPost (model X.prog X.w) X.A X.xe (some (assign (.Name y py) X.env)) (fun _ s'=>SP X pins D .next s')) hc hi hcap hblk hsc hg ht hel I h ?_)) (fun _ s' hq=>wpAny_pure (wpAny_pure hq)) fun _ _ e=>e)
 intro s2 s4 H2 H4 fp cells pl σ4 ys us k I2 f2 I4 na4 ac4 r4 hz q
 obtain ⟨m,hns,_⟩:=I4.loc
 have hns':s4.heap.Ns (s2.heap.objs.size+1) m:=hns
 have frC:H4 (s2.heap.objs.size+1)=none:=I4.free
 have J:=Inv.unblock I2 f2 (Nat.le_succ _) (Nat.le_refl _) (Nat.ne_of_lt (Nat.lt_succ_self _)) I4 na4 ac4 r4 hz (Heap.SameBut.refl _ _)
 have neL:s2.heap.objs.size+1≠X.env.locals:=Nat.ne_of_gt (Nat.lt_succ_of_lt I2.lt)
 have neC:∀ x c,X.env.cells.lookup x=some c→c≠s2.heap.objs.size+1:=fun x c e=>by
  obtain ⟨v,z⟩:=I2.cell x c e
  exact Nat.ne_of_lt (Nat.lt_succ_of_lt z.lt)
 show wpAny _ X.A (assign (.Name y py) X.env (.ref s2.heap.objs.size)) _ _ s4
 refine wpAny_assign_Name (store_ok2 (v:=.ref s2.heap.objs.size) J hN hy hx rfl (fun s' I' hb=>?_) hf)
 obtain ⟨a,sb,ha⟩:=hb
 have hane:s2.heap.objs.size+1≠a:=by
  rcases ha with rfl | ha
  ·exact neL
  ·exact (neC _ _ ha).symm
 refine ⟨m,hns'.sameBut sb hane,fun h' hb'=>⟨_,_,I'.turned (t':=s'.toks) (it:=s2.heap.objs.size+1) (fun b o hne e=>hb'.extBut b o hne e) ?_ neL (.inr (Nat.le_trans I2.sz (Nat.le_succ _))) neC fun p hp=>?_,q⟩⟩
 ·rw [upd_ne (Nat.ne_of_gt (Nat.lt_succ_self _))]
  exact frC
 ·exact Nat.ne_of_lt (Nat.lt_succ_of_lt (Heap.lt_size (I2.pin p hp).1))
end
def SqAt (k:Bool) (h:Heap) (l:Addr) (xs:Array Value):Prop:=match k with | true=>h.IsTuple l xs | false=>h.IsList l xs
def ItAt (k:Bool) (h:Heap) (i l:Addr) (n:Nat):Prop:=match k with | true=>h.IsTupleIter i l n | false=>h.IsListIter i l n
noncomputable def itName:Bool→String | true => "tuple_iterator" | false => "list_iterator"
noncomputable def itObj (k:Bool) (l:Addr):Obj:={ cls:=.type (itName k),data:=.fields #[.ref l,.int 0 0] }
theorem ItAt.extBut {k:Bool} {h h':Heap} {i l b:Addr} {n:Nat} (x:ItAt k h i l n) (hs:Heap.ExtBut b h h') (hb:i≠b):ItAt k h' i l n:=by
 cases k
 ·exact Heap.IsListIter.extBut x hs hb
 ·exact Heap.IsTupleIter.extBut x hs hb
theorem ItAt.at {k:Bool} {h h':Heap} {i l:Addr} {n:Nat} (x:ItAt k h i l n) (e:∀ o,h.get? i=some o→h'.get? i=some o):ItAt k h' i l n:=by
 cases k
 ·exact Heap.IsListIter.at x e
 ·exact Heap.IsTupleIter.at x e
theorem ItAt.get {k:Bool} {h:Heap} {i l:Addr} {n:Nat} (x:ItAt k h i l n):∃ o,h.get? i=some o∧o.data=.fields #[.ref l,.int n 0]:=by
 cases k <;> obtain ⟨o,e,c,d⟩:=x <;> exact ⟨o,e,d⟩
theorem SqAt.extBut {k:Bool} {h h':Heap} {l b:Addr} {xs:Array Value} (x:SqAt k h l xs) (hs:Heap.ExtBut b h h') (hb:l≠b):SqAt k h' l xs:=by
 cases k
 ·exact Heap.IsList.extBut x hs hb
 ·exact Heap.IsTuple.extBut x hs hb
theorem SqAt.at {k:Bool} {h h':Heap} {l:Addr} {xs:Array Value} (x:SqAt k h l xs) (e:∀ o,h.get? l=some o→h'.get? l=some o):SqAt k h' l xs:=by
 cases k <;> obtain ⟨o,q,r⟩:=x <;> exact ⟨o,e o q,r⟩
theorem SqAt.get {k:Bool} {h:Heap} {l:Addr} {xs:Array Value} (x:SqAt k h l xs):∃ o,h.get? l=some o:=by
 cases k <;> obtain ⟨o,q,r⟩:=x <;> exact ⟨o,q⟩
section
variable {prog:Program} {w:World} {A:Around} {E:Value→Shared→Prop} {s:Shared}
theorem nextOf_tup_item {it t:Addr} {i:Nat} {items:Array Value} {x:Value} {Q:Value→Shared→Prop} (hit:s.heap.IsTupleIter it t i) (ht:s.heap.IsTuple t items) (hx:items[i]?=some x)
  (hQ:∀ h',h'.IsTupleIter it t (i+1)→Heap.SameBut it s.heap h'→Q x { s with heap:=h' }):wpAny (model prog w) A (Builtin.SmallTypes.nextOf (.ref it)) Q E s:=by
 obtain ⟨o,ho,hc,hd⟩:=id hit
 obtain ⟨ol,hol,_,nl,hdl⟩:=ht
 unfold Builtin.SmallTypes.nextOf
 refine wpAny_bind (wpAny_callSpecial?_slot (name:=Str.ofString "__next__") hit.typeIs F.slot_tuple_iterator_next
  (wpAny_call_entry F.slot_tuple_iterator_next hit.typeIs F.entry_tuple_iterator_next ?_ (F.args_tuple_iterator_next_1 _)))
 show wpAny _ _ (field (.ref it) 0 >>= _) _ _ s
 refine wpAny_bind (wpAny_field ho hd (x:=.ref t) rfl ?_)
 show wpAny _ _ (if (Value.ref t == Value.none)=true then _ else _) _ _ s
 rw [if_neg (show ¬ ((Value.ref t == Value.none)=true) from Bool.false_ne_true)]
 show wpAny _ _ (field (.ref it) 1 >>= _) _ _ s
 refine wpAny_bind (wpAny_field ho hd (x:=.int i 0) rfl ?_)
 show wpAny _ _ (seqItems? (.ref t) >>= _) _ _ s
 refine wpAny_bind (wpAny_seqItems hol hdl ?_)
 simp only [Int.toNat_natCast,hx]
 refine wpAny_bind (wpAny_setField ho hd (by simp) (wpAny_pure ⟨x,rfl,wpAny_pure (hQ _ ?_ (Heap.SameBut.update ..))⟩))
 exact ⟨_,Heap.get?_update_self _ ho (Obj.isFreed_of_fields (Obj.data_mapFields hd _)),(Obj.cls_mapFields ..).trans hc,by
  rw [Obj.data_mapFields hd]; simp [rawInt]⟩
theorem nextOf_tup_end {it t:Addr} {i:Nat} {items:Array Value} {Q:Value→Shared→Prop} (hh:A.handled=none) (hit:s.heap.IsTupleIter it t i) (ht:s.heap.IsTuple t items) (hx:items[i]?=none)
  (hE:∀ h' e,Heap.ExtBut it s.heap h'→(∃ o,h'.get? e=some o∧o.cls=.type "StopIteration")→E (.ref e) { s with heap:=h' }) :
  wpAny (model prog w) A (Builtin.SmallTypes.nextOf (.ref it)) Q E s:=by
 obtain ⟨o,ho,hc,hd⟩:=id hit
 obtain ⟨ol,hol,_,nl,hdl⟩:=ht
 unfold Builtin.SmallTypes.nextOf
 refine wpAny_bind (wpAny_callSpecial?_slot (name:=Str.ofString "__next__") hit.typeIs F.slot_tuple_iterator_next
  (wpAny_call_entry F.slot_tuple_iterator_next hit.typeIs F.entry_tuple_iterator_next ?_ (F.args_tuple_iterator_next_1 _)))
 show wpAny _ _ (field (.ref it) 0 >>= _) _ _ s
 refine wpAny_bind (wpAny_field ho hd (x:=.ref t) rfl ?_)
 show wpAny _ _ (if (Value.ref t == Value.none)=true then _ else _) _ _ s
 rw [if_neg (show ¬ ((Value.ref t == Value.none)=true) from Bool.false_ne_true)]
 show wpAny _ _ (field (.ref it) 1 >>= _) _ _ s
 refine wpAny_bind (wpAny_field ho hd (x:=.int i 0) rfl ?_)
 show wpAny _ _ (seqItems? (.ref t) >>= _) _ _ s
 refine wpAny_bind (wpAny_seqItems hol hdl ?_)
 simp only [Int.toNat_natCast,hx]
 refine wpAny_bind (wpAny_rule (wpAny_bind (wpAny_setField ho hd (by simp) ?_)))
 show wpAny _ _ (newExc (.type "StopIteration") [] >>= _) _ _ _
 refine wpAny_bind ?_
 simp only [newExc,newTuple]
 refine wpAny_bind (wpAny_newObj_type ?_ (by size_fits))
 refine wpAny_bind (m:=firstArgMember _ _) (wpAny_of_eq (a:=Value.none) (by first | rfl | (simp only [firstArgMember]; rfl)) ?_)
 refine wpAny_newObj_type ?_ (by size_fits)
 simp only [raiseNew]
 refine wpAny_bind (wpAny_handled ?_)
 first | rw [show A.in1.handled=none from hh] | rw [hh]
 refine wpAny_bind (wpAny_pure (wpAny_throw ?_))
 exact hE _ _ (((Heap.SameBut.update ..).extBut.push _).push _) ⟨_,Heap.get?_push_size _ rfl,rfl⟩
theorem src_item {k:Bool} {it l:Addr} {i:Nat} {items:Array Value} {x:Value} {Q:Value→Shared→Prop} (hit:ItAt k s.heap it l i) (ht:SqAt k s.heap l items) (hx:items[i]?=some x)
  (hQ:∀ h',ItAt k h' it l (i+1)→Heap.SameBut it s.heap h'→Q x { s with heap:=h' }):wpAny (model prog w) A (Builtin.SmallTypes.nextOf (.ref it)) Q E s:=by
 cases k
 ·exact wpAny_nextOf_list_item hit ht hx hQ
 ·exact nextOf_tup_item hit ht hx hQ
theorem src_end {k:Bool} {it l:Addr} {i:Nat} {items:Array Value} {Q:Value→Shared→Prop} (hh:A.handled=none) (hit:ItAt k s.heap it l i) (ht:SqAt k s.heap l items) (hx:items[i]?=none)
  (hE:∀ h' e,Heap.ExtBut it s.heap h'→(∃ o,h'.get? e=some o∧o.cls=.type "StopIteration")→E (.ref e) { s with heap:=h' }) :
  wpAny (model prog w) A (Builtin.SmallTypes.nextOf (.ref it)) Q E s:=by
 cases k
 ·exact wpAny_nextOf_list_end hh hit ht hx hE
 ·exact nextOf_tup_end hh hit ht hx hE
theorem src_iter {k:Bool} {l:Addr} {items:Array Value} {Q:Value→Shared→Prop} (ht:SqAt k s.heap l items) (hQ:Q (.ref s.heap.objs.size) { s with heap:=s.heap.push (itObj k l) }):wpAny (model prog w) A (pyIter (.ref l)) Q E s:=by
 cases k
 ·exact wpAny_pyIter_list ht hQ
 ·exact wpAny_pyIter_tuple ht hQ
end
section
variable {prog:Program} {w:World} {A:Around} {E:Value→Shared→Prop} {s:Shared} {k1 k2:Bool}
theorem zip_item {z TI TO i1 i2 l1 l2:Addr} {n1 n2:Nat} {xs ys:Array Value} {x y a b:Value} {Q:Value→Shared→Prop} (D:ZipApart z TI TO i1 i2 l1 l2)
  (hz:IsZip s.heap z TI TO .none) (hTI:IsPair s.heap TI (.ref i1) (.ref i2)) (hTO:IsPair s.heap TO a b)
  (h1:ItAt k1 s.heap i1 l1 n1) (h2:ItAt k2 s.heap i2 l2 n2) (hl1:SqAt k1 s.heap l1 xs) (hl2:SqAt k2 s.heap l2 ys) (hx:xs[n1]?=some x) (hy:ys[n2]?=some y)
  (hQ:∀ h',IsZip h' z TI TO (rawInt s.heap.objs.size)→IsPair h' TO x y→ItAt k1 h' i1 l1 (n1+1)→ItAt k2 h' i2 l2 (n2+1)→IsPair h' s.heap.objs.size x y→h'.objs.size=s.heap.objs.size+1 →
   (∀ c o,c≠z→c≠TO→c≠i1→c≠i2→s.heap.get? c=some o→h'.get? c=some o)→Q (.ref s.heap.objs.size) { s with heap:=h' }) :
  wpAny (model prog w) A (Builtin.«zip.__next__» ⟨[.ref z],[]⟩) (fun fin s'=>∃ v,fin=.done (.ret v)∧Q v s') E s:=by
 show wpAny _ _ (field (.ref z) 2 >>= _) _ _ _
 refine wpAny_bind (wpAny_field hz rfl (x:=.bool false) rfl ?_)
 show wpAny _ _ (field (.ref z) 3 >>= _) _ _ _
 refine wpAny_bind (wpAny_field hz rfl (x:=.ref TI) rfl ?_)
 refine wpAny_bind (wpAny_seqItems hTI rfl ?_)
 show wpAny _ _ (Builtin.SmallTypes.ownedTupleIsFree (.ref z) >>= _) _ _ _
 refine wpAny_bind ?_
 unfold Builtin.SmallTypes.ownedTupleIsFree
 refine wpAny_bind (wpAny_field hz rfl (x:=.none) rfl (wpAny_pure ?_))
 simp only [if_true]
 refine wpAny_bind (wpAny_rule ?_)
 refine wpAny_bind (wpAny_field hz rfl (x:=.ref TO) rfl ?_)
 refine wpAny_bind (wpAny_setField_rec hz (by simp) fun h₁ hz₁ hs₁=>?_)
 replace hz₁:IsZip h₁ z TI TO .ellipsis:=hz₁
 refine wpAny_bind ?_
 simp only [List.zipIdx_cons,List.zipIdx_nil,List.forIn_cons,List.forIn_nil]
 refine wpAny_bind (wpAny_bind (wpAny_onRaise ?_))
 show wpAny _ _ (Builtin.SmallTypes.nextOf (.ref i1) >>= _) _ _ _
 refine wpAny_bind (src_item (h1.extBut hs₁.extBut D.i1z) (hl1.extBut hs₁.extBut D.l1z) hx fun h₂ h1₂ hs₂=>wpAny_pure ?_)
 have hTO₂:IsPair h₂ TO a b:=hs₂.extBut _ _ D.TOi1 (hs₁.extBut _ _ D.TOz hTO)
 refine wpAny_bind (wpAny_seqItems hTO₂ rfl ?_)
 refine wpAny_bind (wpAny_updateSeq_pair hTO₂ fun h₃ hTO₃ hs₃=>?_)
 replace hTO₃:IsPair h₃ TO x b:=hTO₃
 refine wpAny_bind (wpAny_letGo (wpAny_pure ?_))
 refine wpAny_bind (wpAny_bind (wpAny_onRaise ?_))
 show wpAny _ _ (Builtin.SmallTypes.nextOf (.ref i2) >>= _) _ _ _
 refine wpAny_bind (src_item (((h2.extBut hs₁.extBut D.i2z).extBut hs₂.extBut D.i12.symm).extBut hs₃.extBut D.TOi2.symm)
  (((hl2.extBut hs₁.extBut D.l2z).extBut hs₂.extBut D.l2i1).extBut hs₃.extBut D.l2TO) hy fun h₄ h2₄ hs₄=>wpAny_pure ?_)
 have hTO₄:IsPair h₄ TO x b:=hs₄.extBut _ _ D.TOi2 hTO₃
 refine wpAny_bind (wpAny_seqItems hTO₄ rfl ?_)
 refine wpAny_bind (wpAny_updateSeq_pair hTO₄ fun h₅ hTO₅ hs₅=>?_)
 replace hTO₅:IsPair h₅ TO x y:=hTO₅
 refine wpAny_bind (wpAny_letGo (wpAny_pure (wpAny_pure ?_)))
 refine wpAny_bind (wpAny_seqItems hTO₅ rfl ?_)
 refine wpAny_bind (wpAny_newTuple ?_)
 have hsz:h₅.objs.size=s.heap.objs.size:=by rw [hs₅.1,hs₄.1,hs₃.1,hs₂.1,hs₁.1]
 have hz₅:IsZip h₅ z TI TO .ellipsis:=hs₅.extBut _ _ D.TOz.symm (hs₄.extBut _ _ D.i2z.symm (hs₃.extBut _ _ D.TOz.symm (hs₂.extBut _ _ D.i1z.symm hz₁)))
 have hk₅:∀ c o,c≠z→c≠TO→c≠i1→c≠i2→s.heap.get? c=some o→h₅.get? c=some o:=fun c o c1 c2 c3 c4 e =>
  hs₅.extBut _ _ c2 (hs₄.extBut _ _ c4 (hs₃.extBut _ _ c2 (hs₂.extBut _ _ c3 (hs₁.extBut _ _ c1 e))))
 have h1₅:ItAt k1 h₅ i1 l1 (n1+1):=((h1₂.extBut hs₃.extBut D.TOi1.symm).extBut hs₄.extBut D.i12).extBut hs₅.extBut D.TOi1.symm
 have h2₅:ItAt k2 h₅ i2 l2 (n2+1):=h2₄.extBut hs₅.extBut D.TOi2.symm
 have hzlt:z < h₅.objs.size:=Heap.lt_size hz₅
 show wpAny _ _ (Builtin.SmallTypes.ownedTupleHandOut (.ref z) (.ref h₅.objs.size) >>= _) _ _ _
 refine wpAny_bind ?_
 unfold Builtin.SmallTypes.ownedTupleHandOut
 have hz₆:IsZip (h₅.push { cls:=.type "tuple",data:=.seq #[x,y] }) z TI TO .ellipsis:=Heap.get?_push_of_some _ hz₅
 refine wpAny_bind (wpAny_setField_rec hz₆ (by simp) fun h₇ hz₇ hs₇=>?_)
 replace hz₇:IsZip h₇ z TI TO (rawInt h₅.objs.size):=hz₇
 refine wpAny_setField_rec hz₇ (by simp) fun h₈ hz₈ hs₈=>?_
 replace hz₈:IsZip h₈ z TI TO (rawInt h₅.objs.size):=hz₈
 have up:∀ c o,c≠z→h₅.get? c=some o→h₈.get? c=some o:=fun c o c1 e=>hs₈.extBut _ _ c1 (hs₇.extBut _ _ c1 (Heap.get?_push_of_some _ e))
 have hT₈:IsPair h₈ h₅.objs.size x y:=hs₈.extBut _ _ (Nat.ne_of_gt hzlt) (hs₇.extBut _ _ (Nat.ne_of_gt hzlt) (Heap.get?_push_size _ rfl))
 have hz8:h₈.objs.size=h₅.objs.size+1:=by rw [hs₈.1,hs₇.1,Heap.size_push]
 rw [hsz] at hz₈ hT₈ hz8
 refine wpAny_pure ⟨_,rfl,?_⟩
 show Q (.ref h₅.objs.size) _
 rw [hsz]
 exact hQ h₈ hz₈ (up _ _ D.TOz hTO₅) (h1₅.at fun o e=>up _ o D.i1z e) (h2₅.at fun o e=>up _ o D.i2z e) hT₈ hz8 fun c o c1 c2 c3 c4 e=>up c o c1 (hk₅ c o c1 c2 c3 c4 e)
theorem zip_end {z TI TO i1 i2 l1 l2:Addr} {n1 n2:Nat} {xs ys:Array Value} {a b:Value} {Q:Fin→Shared→Prop} (hh:A.handled=none) (D:ZipApart z TI TO i1 i2 l1 l2)
  (hz:IsZip s.heap z TI TO .none) (hTI:IsPair s.heap TI (.ref i1) (.ref i2)) (hTO:IsPair s.heap TO a b)
  (h1:ItAt k1 s.heap i1 l1 n1) (h2:ItAt k2 s.heap i2 l2 n2) (hl1:SqAt k1 s.heap l1 xs) (hl2:SqAt k2 s.heap l2 ys) (hend:xs[n1]?=none∨ys[n2]?=none)
  (hE:∀ h' e,(∀ c o,c≠z→c≠TO→c≠i1→c≠i2→s.heap.get? c=some o→h'.get? c=some o)→(∃ o,h'.get? e=some o∧o.cls=.type "StopIteration")→E (.ref e) { s with heap:=h' }) :
  wpAny (model prog w) A (Builtin.«zip.__next__» ⟨[.ref z],[]⟩) Q E s:=by
 show wpAny _ _ (field (.ref z) 2 >>= _) _ _ _
 refine wpAny_bind (wpAny_field hz rfl (x:=.bool false) rfl ?_)
 show wpAny _ _ (field (.ref z) 3 >>= _) _ _ _
 refine wpAny_bind (wpAny_field hz rfl (x:=.ref TI) rfl ?_)
 refine wpAny_bind (wpAny_seqItems hTI rfl ?_)
 show wpAny _ _ (Builtin.SmallTypes.ownedTupleIsFree (.ref z) >>= _) _ _ _
 refine wpAny_bind ?_
 unfold Builtin.SmallTypes.ownedTupleIsFree
 refine wpAny_bind (wpAny_field hz rfl (x:=.none) rfl (wpAny_pure ?_))
 simp only [if_true]
 refine wpAny_bind (wpAny_rule ?_)
 refine wpAny_bind (wpAny_field hz rfl (x:=.ref TO) rfl ?_)
 refine wpAny_bind (wpAny_setField_rec hz (by simp) fun h₁ hz₁ hs₁=>?_)
 replace hz₁:IsZip h₁ z TI TO .ellipsis:=hz₁
 refine wpAny_bind ?_
 simp only [List.zipIdx_cons,List.zipIdx_nil,List.forIn_cons,List.forIn_nil]
 refine wpAny_bind (wpAny_bind (wpAny_onRaise ?_))
 show wpAny _ _ (Builtin.SmallTypes.nextOf (.ref i1) >>= _) _ _ _
 cases hx:xs[n1]? with
 | none =>
  refine wpAny_bind (src_end hh (h1.extBut hs₁.extBut D.i1z) (hl1.extBut hs₁.extBut D.l1z) hx fun h₂ e hs₂ he=>?_)
  obtain ⟨oe,hoe,hce⟩:=he
  have hz₂:IsZip h₂ z TI TO .ellipsis:=hs₂ _ _ D.i1z.symm hz₁
  have hez:e≠z:=fun x=>by subst x; rw [hz₂] at hoe; cases hoe; simp at hce
  refine wpAny_setField_rec hz₂ (by simp) fun h₃ _ hs₃=>hE h₃ e (fun c o c1 _ c3 _ x=>hs₃.extBut _ _ c1 (hs₂ _ _ c3 (hs₁.extBut _ _ c1 x))) ⟨oe,hs₃.extBut _ _ hez hoe,hce⟩
 | some x =>
  have hy:ys[n2]?=none:=by rcases hend with h | h; rw [hx] at h; cases h; exact h
  refine wpAny_bind (src_item (h1.extBut hs₁.extBut D.i1z) (hl1.extBut hs₁.extBut D.l1z) hx fun h₂ h1₂ hs₂=>wpAny_pure ?_)
  have hTO₂:IsPair h₂ TO a b:=hs₂.extBut _ _ D.TOi1 (hs₁.extBut _ _ D.TOz hTO)
  refine wpAny_bind (wpAny_seqItems hTO₂ rfl ?_)
  refine wpAny_bind (wpAny_updateSeq_pair hTO₂ fun h₃ hTO₃ hs₃=>?_)
  refine wpAny_bind (wpAny_letGo (wpAny_pure ?_))
  refine wpAny_bind (wpAny_bind (wpAny_onRaise ?_))
  show wpAny _ _ (Builtin.SmallTypes.nextOf (.ref i2) >>= _) _ _ _
  refine wpAny_bind (src_end hh (((h2.extBut hs₁.extBut D.i2z).extBut hs₂.extBut D.i12.symm).extBut hs₃.extBut D.TOi2.symm)
   (((hl2.extBut hs₁.extBut D.l2z).extBut hs₂.extBut D.l2i1).extBut hs₃.extBut D.l2TO) hy fun h₄ e hs₄ he=>?_)
  obtain ⟨oe,hoe,hce⟩:=he
  have hz₄:IsZip h₄ z TI TO .ellipsis:=hs₄ _ _ D.i2z.symm (hs₃.extBut _ _ D.TOz.symm (hs₂.extBut _ _ D.i1z.symm hz₁))
  have hez:e≠z:=fun x=>by subst x; rw [hz₄] at hoe; cases hoe; simp at hce
  refine wpAny_setField_rec hz₄ (by simp) fun h₅ _ hs₅=>hE h₅ e (fun c o c1 c2 c3 c4 x=>hs₅.extBut _ _ c1 (hs₄ _ _ c4 (hs₃.extBut _ _ c2 (hs₂.extBut _ _ c3 (hs₁.extBut _ _ c1 x))))) ⟨oe,hs₅.extBut _ _ hez hoe,hce⟩
noncomputable abbrev zH1 (k1:Bool) (h:Heap) (l1:Addr):Heap:=h.push (itObj k1 l1)
noncomputable abbrev zH2 (k1 k2:Bool) (h:Heap) (l1 l2:Addr):Heap:=(zH1 k1 h l1).push (itObj k2 l2)
noncomputable abbrev zH3 (k1 k2:Bool) (h:Heap) (l1 l2:Addr):Heap:=(zH2 k1 k2 h l1 l2).push { cls:=.type "tuple",data:=.seq #[.ref h.objs.size,.ref (zH1 k1 h l1).objs.size] }
noncomputable abbrev zH4 (k1 k2:Bool) (h:Heap) (l1 l2:Addr):Heap:=(zH3 k1 k2 h l1 l2).push { cls:=.type "tuple",data:=.seq #[.none,.none] }
noncomputable abbrev zH5 (k1 k2:Bool) (h:Heap) (l1 l2:Addr):Heap:=(zH4 k1 k2 h l1 l2).push { cls:=.type "zip",data:=.fields #[.none,.bool false,.bool false,.ref (zH2 k1 k2 h l1 l2).objs.size,.ref (zH3 k1 k2 h l1 l2).objs.size] }
theorem zip_new (l1 l2:Addr) (xs ys:Array Value) :
  Meets (Builtin.«zip.__new__» ⟨[.type "zip",.ref l1,.ref l2],[]⟩) (fun _ R s=>SqAt k1 s.heap l1 xs∧SqAt k2 s.heap l2 ys ∧
   R (.ok (.ret (.ref (zH4 k1 k2 s.heap l1 l2).objs.size))) { s with heap:=zH5 k1 k2 s.heap l1 l2 }) :=
 .of_wp fun prog w A R s h=>by
  obtain ⟨hp,g,d,tk,os⟩:=s; obtain ⟨hl1,hl2,h⟩:=h
  have hsub:=sub_zip
  have hL1:SqAt k1 (Shared.heap ⟨hp,g,d,tk,os⟩) l1 xs:=hl1
  have hL2:SqAt k2 (Shared.heap ⟨hp.push (itObj k1 l1),g,d,tk,os⟩) l2 ys:=hl2.at fun o e=>Heap.get?_push_of_some _ e
  wp_walk using src_iter hL1,src_iter hL2
  exact ⟨_,rfl,h⟩
theorem zip_call {l1 l2:Addr} {xs ys:Array Value} {Q:Value→Shared→Prop} (hl1:SqAt k1 s.heap l1 xs) (hl2:SqAt k2 s.heap l2 ys)
  (h:∀ h',IsZip h' (s.heap.objs.size+4) (s.heap.objs.size+2) (s.heap.objs.size+3) .none→IsPair h' (s.heap.objs.size+2) (.ref s.heap.objs.size) (.ref (s.heap.objs.size+1)) →
   IsPair h' (s.heap.objs.size+3) .none .none→ItAt k1 h' s.heap.objs.size l1 0→ItAt k2 h' (s.heap.objs.size+1) l2 0→h'.objs.size=s.heap.objs.size+5 →
   (∀ c o,s.heap.get? c=some o→h'.get? c=some o)→Q (.ref (s.heap.objs.size+4)) { s with heap:=h' }) :
  wpAny (model prog w) A (call (.type "zip") [.ref l1,.ref l2]) Q E s:=by
 refine callType_new F.called_zip (by decide) (F.typeCall_zip_2 _ _) (F.newCall_zip_2 _ _) (fun obj=>F.args_object_init_3 obj _ _) F.entry_zip_new
  (zip_new (k1:=k1) (k2:=k2) l1 l2 xs ys) ⟨hl1,hl2,?_⟩
 have z1:(zH1 k1 s.heap l1).objs.size=s.heap.objs.size+1:=Heap.size_push ..
 have z2:(zH2 k1 k2 s.heap l1 l2).objs.size=s.heap.objs.size+2:=by rw [Heap.size_push,z1]
 have z3:(zH3 k1 k2 s.heap l1 l2).objs.size=s.heap.objs.size+3:=by rw [Heap.size_push,z2]
 have z4:(zH4 k1 k2 s.heap l1 l2).objs.size=s.heap.objs.size+4:=by rw [Heap.size_push,z3]
 have z5:(zH5 k1 k2 s.heap l1 l2).objs.size=s.heap.objs.size+5:=by rw [Heap.size_push,z4]
 have g5:(zH5 k1 k2 s.heap l1 l2).get? (zH4 k1 k2 s.heap l1 l2).objs.size=some _:=Heap.get?_push_size _ rfl
 have g4:(zH5 k1 k2 s.heap l1 l2).get? (zH3 k1 k2 s.heap l1 l2).objs.size=some _:=Heap.get?_push_of_some _ (Heap.get?_push_size _ rfl)
 have g3:(zH5 k1 k2 s.heap l1 l2).get? (zH2 k1 k2 s.heap l1 l2).objs.size=some _:=Heap.get?_push_of_some _ (Heap.get?_push_of_some _ (Heap.get?_push_size _ rfl))
 have g2:(zH5 k1 k2 s.heap l1 l2).get? (zH1 k1 s.heap l1).objs.size=some (itObj k2 l2):=Heap.get?_push_of_some _ (Heap.get?_push_of_some _ (Heap.get?_push_of_some _ (Heap.get?_push_size _ rfl)))
 have g1:(zH5 k1 k2 s.heap l1 l2).get? s.heap.objs.size=some (itObj k1 l1):=Heap.get?_push_of_some _ (Heap.get?_push_of_some _ (Heap.get?_push_of_some _ (Heap.get?_push_of_some _ (Heap.get?_push_size _ rfl))))
 show _∧_
 rw [z2,z3,z4] at g5
 rw [z1,z2] at g3
 rw [z3] at g4
 rw [z1] at g2
 rw [z4]
 refine ⟨⟨_,g5,rfl⟩,h _ g5 g3 g4 ?_ ?_ z5 fun c o x =>
  Heap.get?_push_of_some _ (Heap.get?_push_of_some _ (Heap.get?_push_of_some _ (Heap.get?_push_of_some _ (Heap.get?_push_of_some _ x))))⟩
 ·cases k1 <;> exact ⟨_,g1,rfl,rfl⟩
 ·cases k2 <;> exact ⟨_,g2,rfl,rfl⟩
end
def SqK (k:Bool) (K:PySem.W.Frag) (H:Hp) (a:Addr) (xs:List V):Prop:=match k with | true=>SqT K H a xs | false=>SqL K H a xs
theorem Inv.sqk {X:Cx} {pins:List (Addr×Obj)} {σ:St} {H:Hp} {s:Shared} {k:Bool} {a:Addr} {xs:List V} (I:Inv X pins σ H s) (h:SqK k X.K H a xs):∃ its:List Value,Vals xs its∧SqAt k s.heap a its.toArray∧xs.length≤sizeLine:=by
 cases k
 ·obtain ⟨its,r,p,z⟩:=I.list h
  exact ⟨its,r,p.isList,z⟩
 ·obtain ⟨its,r,p,z⟩:=I.tuple h
  exact ⟨its,r,p,z⟩
theorem Inv.sqk_inj {X:Cx} {pins:List (Addr×Obj)} {σ:St} {H:Hp} {s:Shared} {k:Bool} {a:Addr} {xs ys:List V} (I:Inv X pins σ H s) (h:SqK k X.K H a xs) (h':SqK k X.K H a ys):xs=ys:=by
 cases k
 ·exact I.list_inj h h'
 ·exact I.tuple_inj h h'
noncomputable def Itz (K:PySem.W.Frag) (k1 k2:Bool) (a b:Addr):It :=
 ⟨fun i H=>∃ xs ys x y,SqK k1 K H a xs∧SqK k2 K H b ys∧xs[i]?=some x∧ys[i]?=some y,
  fun i H v H'=>∃ p x y,v=.ref p∧H p=none∧H'=upd H p (.tup [x,y])∧(∀ xs,SqK k1 K H a xs→xs[i]?=some x)∧∀ ys,SqK k2 K H b ys→ys[i]?=some y,
  fun i H=>∃ xs ys,SqK k1 K H a xs∧SqK k2 K H b ys∧(xs.length≤i∨ys.length≤i)⟩
structure ZTurn (k1 k2:Bool) (z TI TO i1 i2 a b:Addr) (i:Nat) (f0:Value) (h:Heap):Prop where
 zz:IsZip h z TI TO f0
 ti:IsPair h TI (.ref i1) (.ref i2)
 to:∃ u v,IsPair h TO u v
 t1:ItAt k1 h i1 a i
 t2:ItAt k2 h i2 b i
structure ZNe (z TI TO i1 i2:Addr):Prop where
 TIz:TI≠z
 TOz:TO≠z
 i1z:i1≠z
 i2z:i2≠z
 TITO:TI≠TO
 TIi1:TI≠i1
 TIi2:TI≠i2
 TOi1:TO≠i1
 TOi2:TO≠i2
 i12:i1≠i2
section
variable {X:Cx} {pins:List (Addr×Obj)} {σ:St} {H:Hp} {s:Shared}
theorem Inv.turnedT {h':Heap} {ch:List Addr} {p:Addr} {o:HO} (I:Inv X pins σ H s) (hf:∀ b∈ch,FpOk X pins H b) (hp:s.heap.objs.size=p) (k:∀ b o,b ∉ ch→s.heap.get? b=some o→h'.get? b=some o)
  (new:ObjOk X.prog X.w (upd H p o) h' p o):Inv X pins σ (upd H p o) { s with heap:=h' }:=by
 have hn:H p=none:=I.hok.fresh (Nat.le_of_eq hp)
 have nit:∀ b u,H b=some u→b ∉ ch:=fun b u e z=>by rw [(hf b z).1] at e; cases e
 have nep:∀ b u,H b=some u→b≠p:=fun b u e z=>by rw [z,hn] at e; cases e
 have nap:∀ b u,s.heap.get? b=some u→b≠p:=fun b u e=>by
  rw [← hp]
  exact Nat.ne_of_lt (Heap.lt_size e)
 refine I.step (g':=s.gens) (d':=s.drawn) (t':=s.toks) (ch:=ch) (fun b hb=>?_) (fun b o _ _ hc e _=>k b o hc e) (fun b o _ _ hc e _=>⟨o.slots,k b o hc e⟩) (fun b u _ e n=>by rw [upd_ne (nap b u e)]; exact n)
  (fun b o hc e=>⟨o,k b o hc e⟩) (fun b xs e=>by rw [upd_ne (nep b _ e)]; exact e) (fun b u v e=>by rw [upd_ne (nep b _ e)]; exact e) (fun b ps e=>⟨#[],by rw [upd_ne (nep b _ e),e]; simp⟩) (fun m hm=>?_) (fun b u e=>?_) I.bare
 ·obtain ⟨_,h1,_,h3,h4,h5⟩:=hf b hb
  exact ⟨h3,h1,h4,h5⟩
 ·obtain ⟨o,es,ep,ho,r⟩:=hm
  exact ⟨o,es,ep,k _ o (fun z=>(hf _ z).2.1 rfl) ho,r⟩
 ·by_cases hb:b=p
  ·subst hb
   rw [upd_same] at e
   cases e
   exact new
  ·rw [upd_ne hb] at e
   refine (I.hok b u e).stay (fun c v hc q=>k c v ?_ q) (fun c q=>by rw [upd_ne (nep c _ q)]; exact q) fun c xs q=>by rw [upd_ne (nep c _ q)]; exact q
   rcases hc with z | z
   ·rw [z]; exact nit b u e
   ·exact nit c _ z
theorem Inv.turnedL {h':Heap} {ch:List Addr} (I:Inv X pins σ H s) (hf:∀ b∈ch,FpOk X pins H b) (k:∀ b o,b ∉ ch→s.heap.get? b=some o→h'.get? b=some o):Inv X pins σ H { s with heap:=h' }:=by
 have nit:∀ b u,H b=some u→b ∉ ch:=fun b u e z=>by rw [(hf b z).1] at e; cases e
 refine I.step (g':=s.gens) (d':=s.drawn) (t':=s.toks) (ch:=ch) (fun b hb=>?_) (fun b o _ _ hc e _=>k b o hc e) (fun b o _ _ hc e _=>⟨o.slots,k b o hc e⟩) (fun b u _ e n=>n)
  (fun b o hc e=>⟨o,k b o hc e⟩) (fun b xs e=>e) (fun b u v e=>e) (fun b ps e=>⟨#[],by rw [e]; simp⟩) (fun m hm=>?_) (fun b u e=>?_) I.bare
 ·obtain ⟨_,h1,_,h3,h4,h5⟩:=hf b hb
  exact ⟨h3,h1,h4,h5⟩
 ·obtain ⟨o,es,ep,ho,r⟩:=hm
  exact ⟨o,es,ep,k _ o (fun z=>(hf _ z).2.1 rfl) ho,r⟩
 ·refine (I.hok b u e).stay (fun c v hc q=>k c v ?_ q) (fun c q=>q) fun c xs q=>q
  rcases hc with z | z
  ·rw [z]; exact nit b u e
  ·exact nit c _ z
theorem Inv.apart {k:Bool} {a:Addr} {xs:List V} {b:Addr} {o:Obj} (I:Inv X pins σ H s) (hs:SqK k X.K H a xs) (hf:FpOk X pins H b):a≠b:=by
 rintro rfl
 have inH:∀ {u:HO},Rd H a u→False:=fun r=>by
  rcases r with r | ⟨o,r⟩ <;> rw [hf.1] at r <;> cases r
 have inK:∀ {ob:Obj},X.K.lookup a=some ob→False:=fun e=>by
  have e0:=I.mod.kin a _ e
  rcases hf.2.2.2.1 with z | z
  ·exact I.ok.noex _ _ e0 z
  ·exact absurd (Nat.lt_of_lt_of_le (Heap.lt_size (I.ok.bs _ _ e0).1) z) (Nat.lt_irrefl _)
 cases k
 ·rcases hs with r | ⟨ob,_,_,e,_⟩
  ·exact inH r
  ·exact inK e
 ·rcases hs with r | ⟨ob,_,_,e,_⟩
  ·exact inH r
  ·exact inK e
end
theorem turn_zip {P:Program} {w:World} {K:PySem.W.Frag} {es:List Expr} {kt:Nat} {tp:Pos} {k1 k2:Bool} {a b z TI TO i1 i2:Addr} (D:ZNe z TI TO i1 i2) :
  Turn P w K (.Tuple es kt tp) (Itz K k1 k2 a b) [z,TI,TO,i1,i2] z (fun i h=>ZTurn k1 k2 z TI TO i1 i2 a b i .none h) where
 mem:=by simp
 obj:=fun i h st c hc=>by
  simp only [List.mem_cons,List.not_mem_nil,or_false] at hc
  rcases hc with rfl | rfl | rfl | rfl | rfl
  ·exact ⟨_,st.zz,fun v z=>by cases z⟩
  ·exact ⟨_,st.ti,fun v z=>by cases z⟩
  ·obtain ⟨u,v,q⟩:=st.to
   exact ⟨_,q,fun v z=>by cases z⟩
  ·obtain ⟨o,e,d⟩:=st.t1.get
   exact ⟨o,e,fun v z=>by rw [d] at z; cases z⟩
  ·obtain ⟨o,e,d⟩:=st.t2.get
   exact ⟨o,e,fun v z=>by rw [d] at z; cases z⟩
 keep:=fun i h h' st k=>⟨k z (by simp) _ st.zz,k TI (by simp) _ st.ti,let ⟨u,v,q⟩:=st.to; ⟨u,v,k TO (by simp) _ q⟩,st.t1.at fun o e=>k i1 (by simp) o e,st.t2.at fun o e=>k i2 (by simp) o e⟩
 item:=by
  intro X hP hw hK hc i pins s σ H E I hf st hg
  subst hP hw hK
  obtain ⟨xs,ys,x,y,hx1,hy1,hx,hy⟩:=hg
  obtain ⟨us,ru,pu,zu⟩:=I.sqk hx1
  obtain ⟨ws,rw',pw,zw⟩:=I.sqk hy1
  obtain ⟨u,hu,rux⟩:=ru.get hx
  obtain ⟨v,hv,rvy⟩:=rw'.get hy
  have ap:∀ c∈[z,TI,TO,i1,i2],a≠c∧b≠c:=fun c hc=>⟨I.apart (o:=default) hx1 (hf c hc),I.apart (o:=default) hy1 (hf c hc)⟩
  have D':ZipApart z TI TO i1 i2 a b:=⟨D.TIz,D.TOz,D.i1z,D.i2z,D.TITO,D.TIi1,D.TIi2,D.TOi1,D.TOi2,D.i12,(ap z (by simp)).1,(ap TO (by simp)).1,(ap i1 (by simp)).1,(ap i2 (by simp)).1,(ap z (by simp)).2,(ap TO (by simp)).2,(ap i1 (by simp)).2,(ap i2 (by simp)).2⟩
  obtain ⟨ua,ub,hTO⟩:=st.to
  have hT:s.TypeIs (.ref z) "zip" := ⟨_,st.zz,rfl⟩
  unfold pyNext
  refine wpAny_bind (wpAny_attempt (wpAny_callSpecial?_slot (name:=Str.ofString "__next__") hT F.slot_zip_next
   (wpAny_call_entry F.slot_zip_next hT F.entry_zip_next
    (zip_item D' st.zz st.ti hTO st.t1 st.t2 pu pw (x:=u) (y:=v) (by simpa using hu) (by simpa using hv) fun h' a1 a2 a3 a4 a5 a6 a7=>wpAny_pure ?_) (F.args_zip_next_1 _))))
  refine ⟨_,rfl,?_⟩
  refine wpAny_letOwnedTupleGo_zip (s:={ s with heap:=h' }) a1 fun h2 hz2 hs2=>?_
  have ne:∀ c∈[z,TI,TO,i1,i2],c≠s.heap.objs.size:=fun c hc e=>by
   have:∃ o,s.heap.get? c=some o:=by
    simp only [List.mem_cons,List.not_mem_nil,or_false] at hc
    rcases hc with rfl | rfl | rfl | rfl | rfl
    ·exact ⟨_,st.zz⟩
    ·exact ⟨_,st.ti⟩
    ·exact ⟨_,hTO⟩
    ·obtain ⟨o,e,d⟩:=st.t1.get; exact ⟨o,e⟩
    ·obtain ⟨o,e,d⟩:=st.t2.get; exact ⟨o,e⟩
   obtain ⟨o,q⟩:=this
   exact absurd (Heap.lt_size q) (by rw [e]; exact Nat.lt_irrefl _)
  have hfree:H s.heap.objs.size=none:=I.hok.fresh (Nat.le_refl _)
  have pr2:IsPair h2 s.heap.objs.size u v:=hs2.extBut _ _ (ne z (by simp)).symm a5
  have kk:∀ c o,c ∉ [z,TI,TO,i1,i2]→s.heap.get? c=some o→h2.get? c=some o:=fun c o hc e=>by
   simp only [List.mem_cons,List.not_mem_nil,or_false,not_or] at hc
   exact hs2.extBut _ _ hc.1 (a7 c o hc.1 hc.2.2.1 hc.2.2.2.1 hc.2.2.2.2 e)
  have I2:Inv X pins σ (upd H s.heap.objs.size (.tup [x,y])) { s with heap:=h2 } :=
   I.turnedT (ch:=[z,TI,TO,i1,i2]) hf rfl kk ⟨by show 2≤sizeLine; decide,[u,v],.cons rux (.cons rvy .nil),⟨_,pr2,rfl,0,rfl⟩⟩
  refine ⟨.ref s.heap.objs.size,_,I2,rfl,⟨_,x,y,rfl,hfree,rfl,fun zs hz=>?_,fun zs hz=>?_⟩,⟨hz2,hs2.extBut _ _ D.TIz (a7 _ _ D.TIz D.TITO D.TIi1 D.TIi2 st.ti),⟨u,v,hs2.extBut _ _ D.TOz a2⟩,a3.extBut hs2.extBut D.i1z,a4.extBut hs2.extBut D.i2z⟩,fun c hc=>?_⟩
  ·rw [I.sqk_inj hz hx1]; exact hx
  ·rw [I.sqk_inj hz hy1]; exact hy
  ·rw [upd_ne (ne c hc)]; exact (hf c hc).1
 done:=by
  intro X hP hw hK hc i pins s σ H E I hf st hg
  subst hP hw hK
  obtain ⟨xs,ys,hx1,hy1,hend⟩:=hg
  obtain ⟨us,ru,pu,zu⟩:=I.sqk hx1
  obtain ⟨ws,rw',pw,zw⟩:=I.sqk hy1
  have l1:=ru.length
  have l2:=rw'.length
  have ap:∀ c∈[z,TI,TO,i1,i2],a≠c∧b≠c:=fun c hc=>⟨I.apart (o:=default) hx1 (hf c hc),I.apart (o:=default) hy1 (hf c hc)⟩
  have D':ZipApart z TI TO i1 i2 a b:=⟨D.TIz,D.TOz,D.i1z,D.i2z,D.TITO,D.TIi1,D.TIi2,D.TOi1,D.TOi2,D.i12,(ap z (by simp)).1,(ap TO (by simp)).1,(ap i1 (by simp)).1,(ap i2 (by simp)).1,(ap z (by simp)).2,(ap TO (by simp)).2,(ap i1 (by simp)).2,(ap i2 (by simp)).2⟩
  obtain ⟨ua,ub,hTO⟩:=st.to
  have hT:s.TypeIs (.ref z) "zip" := ⟨_,st.zz,rfl⟩
  unfold pyNext
  refine wpAny_bind (wpAny_attempt (wpAny_callSpecial?_slot (name:=Str.ofString "__next__") hT F.slot_zip_next
   (wpAny_call_entry F.slot_zip_next hT F.entry_zip_next (zip_end (I.ok.hd hc) D' st.zz st.ti hTO st.t1 st.t2 pu pw ?_ fun h' e hk he=>?_) (F.args_zip_next_1 _))))
  ·rcases hend with q | q
   ·exact .inl (by simp; omega)
   ·exact .inr (by simp; omega)
  ·obtain ⟨o,ho,hc⟩:=he
   refine wpAny_bind (wpAny_isInstance (T := "StopIteration") (b:=true) ⟨o,ho,hc⟩ isSubtype_stop ?_)
   refine wpAny_pure ⟨rfl,I.turnedL (ch:=[z,TI,TO,i1,i2]) hf fun c o hc e=>?_⟩
   simp only [List.mem_cons,List.not_mem_nil,or_false,not_or] at hc
   exact hk c o hc.1 hc.2.2.1 hc.2.2.2.1 hc.2.2.2.2 e
 self:=fun A i s Q E st h=>wpAny_pyIter_zip st.zz h
theorem nne {a b:Nat} (h:a≠b):@Ne Addr a b:=h
theorem zne (n:Nat):ZNe (n+4) (n+2) (n+3) n (n+1) :=
 ⟨nne (by omega),nne (by omega),nne (by omega),nne (by omega),nne (by omega),nne (by omega),nne (by omega),nne (by omega),nne (by omega),nne (by omega)⟩
def iZip (K:PySem.W.Frag) (ta:TA):TI:=fun σ H R=>ta σ H fun vs H1=>∃ k1 k2 a b,vs=[.ref a,.ref b]∧(∃ xs,SqK k1 K H1 a xs)∧(∃ ys,SqK k2 K H1 b ys)∧R (Itz K k1 k2 a b) H1
section
variable {X:Cx}
theorem pi_zip {es:List Expr} {kt:Nat} {tp:Pos} {a b:Expr} {ta:TA} {p pos:Pos} (hg:Gl X "zip") (hm:X.mg "zip" = none) (ha:PA X [a,b] ta) (hbz:bootBuiltins "zip" = some (.type "zip"))
  (hs:starEach [a,b] X.env=[(false,eval a X.env),(false,eval b X.env)]:=by rfl) (hs2:starEach [b] X.env=[(false,eval b X.env)]:=by rfl) :
  PI X (.Tuple es kt tp) (.Call (.Name "zip" p) [a,b] [] pos) (iZip X.K ta):=by
 intro pins s σ H R I h
 refine Call_ (ld_blt I hg hm hbz (PyProof.Rows.callWith_type1 (thn (ha pos pins s σ H _ I h) fun us s1 ⟨vs,H1,I1,r1,q1⟩=>?_) (by rw [hs,hs2]) (by rw [hs2]; rfl)))
 obtain ⟨k1,k2,l1,l2,e,⟨xs,hx⟩,⟨ys,hy⟩,q⟩:=q1
 subst e
 cases r1 with
 | cons r rr =>
  cases rr with
  | cons r' rr =>
   cases rr
   cases r
   cases r'
   obtain ⟨us,ru,pu,zu⟩:=I1.sqk hx
   obtain ⟨ws,rw',pw,zw⟩:=I1.sqk hy
   refine zip_call pu pw fun h' z1 z2 z3 z4 z5 z6 z7=>?_
   refine wpAny_pyIter_zip (s:={ s1 with heap:=h' }) z1 ?_
   refine ⟨s1.heap.objs.size+4,[s1.heap.objs.size+4,s1.heap.objs.size+2,s1.heap.objs.size+3,s1.heap.objs.size,s1.heap.objs.size+1],_,_,H1,rfl,I1.kept (t':=s1.toks) z7,turn_zip (zne _),
    ⟨z1,z2,⟨_,_,z3⟩,z4,z5⟩,fun c hc=>?_,q⟩
   have hle:s1.heap.objs.size≤c:=by
    simp only [List.mem_cons,List.not_mem_nil,or_false] at hc
    rcases hc with rfl | rfl | rfl | rfl | rfl
    ·exact Nat.le_add_right _ _
    ·exact Nat.le_add_right _ _
    ·exact Nat.le_add_right _ _
    ·exact Nat.le_refl _
    ·exact Nat.le_add_right _ _
   exact I1.fpOk hle (I1.hok.fresh hle)
end
theorem walks_at {prog:Program} {w:World} {A:Around} {k:Bool} {I l:Addr} {items:Array Value} (hh:A.handled=none) (hne:l≠I) :
  Walks prog w A I [I,l] [I] items.size (fun i v=>items[i]?=some v) (fun i h=>ItAt k h I l i∧SqAt k h l items):=by
 cases k
 ·exact Walks.list hh I l hne items
 ·exact Walks.tuple hh I l hne items
noncomputable def trV:V→Bool
 | .bl b=>b
 | .int i=>i != 0
 | .non=>false
 | _=>true
noncomputable def flatT:V→Bool
 | .bl _=>true
 | .int _=>true
 | .non=>true
 | _=>false
theorem truthy_flat {prog:Program} {w:World} {A:Around} {E:Value→Shared→Prop} {s:Shared} {x:V} {v:Value} {Q:Bool→Shared→Prop} (r:RelV x v) (f:flatT x=true) (h:Q (trV x) s):wpAny (model prog w) A (truthy v) Q E s:=by
 cases x with
 | non=>cases r; exact truthy_none h
 | bl b=>cases r; exact wpAny_truthy_bool h
 | int i=>obtain ⟨t,rfl⟩:=r; exact PySem.P.truthy_int h
 | _=>cases f
theorem range_all {α:Type} (xs:List α) (p:α→Bool) (d:α):(List.range xs.length).all (fun i=>p (xs.getD i d))=xs.all p:=by
 rw [Bool.eq_iff_iff,List.all_eq_true,List.all_eq_true]
 constructor
 ·intro h x hx
  obtain ⟨i,hi,rfl⟩:=List.mem_iff_getElem.mp hx
  have:=h i (List.mem_range.mpr hi)
  simpa [List.getD_eq_getElem?_getD,hi] using this
 ·intro h i hi
  have hi':=List.mem_range.mp hi
  simpa [List.getD_eq_getElem?_getD,hi'] using h xs[i] (List.getElem_mem hi')
theorem range_any {α:Type} (xs:List α) (p:α→Bool) (d:α):(List.range xs.length).any (fun i=>p (xs.getD i d))=xs.any p:=by
 have:=range_all xs (fun x=>!p x) d
 rw [← List.not_any_eq_all_not,← List.not_any_eq_all_not] at this
 simpa using this
theorem pre_sum (xs:List Int):∀ n,n≤xs.length→preSum (fun i=>xs.getD i 0) n=(xs.take n).sum
 | 0,_=>by simp [preSum]
 | n+1,h=>by
  have this:xs[n]?=some xs[n]:=List.getElem?_eq_getElem (by omega)
  have e:xs.take (n+1)=xs.take n++[xs[n]]:=by rw [List.take_add_one,this]; rfl
  rw [preSum,pre_sum xs n (by omega),e,List.sum_append]
  simp [List.getD_eq_getElem?_getD,this]
section
variable {X:Cx}
abbrev RL:=List V→Hp→VK→Prop
def rAll (K:PySem.W.Frag):RL:=fun xs H Q=>∃ (k:Bool) (p:Addr) (ys:List V),xs=[.ref p]∧SqK k K H p ys∧ys.all flatT=true∧Q (.bl (ys.all trV)) H
def rAny (K:PySem.W.Frag):RL:=fun xs H Q=>∃ (k:Bool) (p:Addr) (ys:List V),xs=[.ref p]∧SqK k K H p ys∧ys.all flatT=true∧Q (.bl (ys.any trV)) H
def rSum (K:PySem.W.Frag):RL:=fun xs H Q=>∃ (k:Bool) (p:Addr) (ns:List Int),xs=[.ref p]∧SqK k K H p (ns.map V.int)∧Q (.int ns.sum) H
theorem it_new {k:Bool} {l:Addr} {items:Array Value} {s:Shared} (h:SqAt k s.heap l items):ItAt k (s.heap.push (itObj k l)) s.heap.objs.size l 0∧SqAt k (s.heap.push (itObj k l)) l items:=by
 refine ⟨?_,h.at fun o e=>Heap.get?_push_of_some _ e⟩
 cases k <;> exact ⟨_,Heap.get?_push_size _ rfl,rfl,rfl⟩
theorem l_ne_new {k:Bool} {l:Addr} {items:Array Value} {s:Shared} (h:SqAt k s.heap l items):l≠s.heap.objs.size:=by
 obtain ⟨o,e⟩:=h.get
 exact Nat.ne_of_lt (Heap.lt_size e)
theorem keep_new {s:Shared} {h':Heap} {o0:Obj} (hk:∀ b o,b ∉ [s.heap.objs.size]→(s.heap.push o0).get? b=some o→h'.get? b=some o):∀ b o,s.heap.get? b=some o→h'.get? b=some o:=fun b o e =>
 hk b o (fun z=>by have:=Heap.lt_size e; rw [List.mem_singleton.mp z] at this; exact Nat.lt_irrefl _ this) (Heap.get?_push_of_some _ e)
theorem call_all (hc:X.calm=true):CallR X (.builtin "all") (rAll X.K):=by
 intro pins s σ H xs us Q I rv h
 obtain ⟨k,p,ys,rfl,hs,hf,q⟩:=h
 obtain ⟨u,rfl,ru⟩:=rv.one
 cases ru
 obtain ⟨its,ri,sq,hz⟩:=I.sqk hs
 have hh:X.A.in1.handled=none:=I.ok.hd hc
 refine call_all_walk (src_iter sq ?_)
 refine ⟨s.heap.objs.size,_,_,_,_,_,fun i=>trV (ys.getD i .non),rfl,walks_at (k:=k) (l:=p) (items:=its.toArray) hh (l_ne_new sq),it_new sq,?_,fun h' tk hk=>?_⟩
 ·intro i v s' Q' E' hv hq
  have hv':its[i]?=some v:=by simpa using hv
  obtain ⟨hi,_⟩:=List.getElem?_eq_some_iff.mp hv'
  have hi':i < ys.length:=by rw [ri.length]; exact hi
  have hy:ys[i]?=some ys[i]:=List.getElem?_eq_getElem hi'
  obtain ⟨v',e1,e2⟩:=ri.get hy
  rw [hv'] at e1
  cases e1
  refine truthy_flat e2 (List.all_eq_true.mp hf _ (List.getElem_mem hi')) ?_
  simpa [List.getD_eq_getElem?_getD,hy] using hq
 ·have e:(List.range its.toArray.size).all (fun i=>trV (ys.getD i .non))=ys.all trV:=by
   rw [List.size_toArray,← ri.length]
   exact range_all ys trV .non
  rw [e]
  exact ⟨.bl _,H,I.kept (keep_new hk),rfl,q⟩
theorem call_any (hc:X.calm=true):CallR X (.builtin "any") (rAny X.K):=by
 intro pins s σ H xs us Q I rv h
 obtain ⟨k,p,ys,rfl,hs,hf,q⟩:=h
 obtain ⟨u,rfl,ru⟩:=rv.one
 cases ru
 obtain ⟨its,ri,sq,hz⟩:=I.sqk hs
 have hh:X.A.in1.handled=none:=I.ok.hd hc
 refine call_any_walk (src_iter sq ?_)
 refine ⟨s.heap.objs.size,_,_,_,_,_,fun i=>trV (ys.getD i .non),rfl,walks_at (k:=k) (l:=p) (items:=its.toArray) hh (l_ne_new sq),it_new sq,?_,fun h' tk hk=>?_⟩
 ·intro i v s' Q' E' hv hq
  have hv':its[i]?=some v:=by simpa using hv
  obtain ⟨hi,_⟩:=List.getElem?_eq_some_iff.mp hv'
  have hi':i < ys.length:=by rw [ri.length]; exact hi
  have hy:ys[i]?=some ys[i]:=List.getElem?_eq_getElem hi'
  obtain ⟨v',e1,e2⟩:=ri.get hy
  rw [hv'] at e1
  cases e1
  refine truthy_flat e2 (List.all_eq_true.mp hf _ (List.getElem_mem hi')) ?_
  simpa [List.getD_eq_getElem?_getD,hy] using hq
 ·have e:(List.range its.toArray.size).any (fun i=>trV (ys.getD i .non))=ys.any trV:=by
   rw [List.size_toArray,← ri.length]
   exact range_any ys trV .non
  rw [e]
  exact ⟨.bl _,H,I.kept (keep_new hk),rfl,q⟩
theorem call_sum (hc:X.calm=true):CallR X (.builtin "sum") (rSum X.K):=by
 intro pins s σ H xs us Q I rv h
 obtain ⟨k,p,ns,rfl,hs,q⟩:=h
 obtain ⟨u,rfl,ru⟩:=rv.one
 cases ru
 obtain ⟨its,ri,sq,hz⟩:=I.sqk hs
 have hl:=ri.length
 rw [List.length_map] at hl
 have hh:X.A.in1.handled=none:=I.ok.hd hc
 refine call_sum_walkG (src_iter sq ?_)
 refine ⟨s.heap.objs.size,_,_,_,_,_,fun i=>ns.getD i 0,rfl,walks_at (k:=k) (l:=p) (items:=its.toArray) hh (l_ne_new sq),it_new sq,fun b hb=>?_,?_,fun h' tk t' hk=>?_⟩
 ·rw [Heap.size_push]
  obtain ⟨o,e⟩:=sq.get
  have hlt:=Heap.lt_size e
  simp only [List.mem_cons,List.not_mem_nil,or_false] at hb
  rcases hb with rfl | rfl
  ·exact Nat.lt_succ_self _
  ·exact Nat.lt_succ_of_lt hlt
 ·intro i v hv
  have hv':its[i]?=some v:=by simpa using hv
  obtain ⟨hi,_⟩:=List.getElem?_eq_some_iff.mp hv'
  have hy:(ns.map V.int)[i]?=some (.int ns[i]):=by rw [List.getElem?_map,List.getElem?_eq_getElem (by omega)]; rfl
  obtain ⟨v',e1,t,e2⟩:=ri.get hy
  rw [hv'] at e1
  cases e1
  exact ⟨t,by rw [e2]; show _=Value.int (ns.getD i 0) t; rw [List.getD_eq_getElem?_getD,List.getElem?_eq_getElem (by omega)]; rfl⟩
 ·have e:preSum (fun i=>ns.getD i 0) its.toArray.size=ns.sum:=by
   rw [List.size_toArray,← hl,pre_sum ns _ (Nat.le_refl _),List.take_length]
  rw [e]
  exact ⟨.int ns.sum,H,I.kept (keep_new hk),⟨t',rfl⟩,q⟩
def rIsi (K:PySem.W.Frag):RL:=fun xs H Q=>∃ x n t b,xs=[x,.ty n]∧TyOf K H x t∧PySem.W.kitOne K t (.type n)=some b∧Q (.bl b) H
theorem call_isi:CallR X (.builtin "isinstance") (rIsi X.K):=by
 intro pins s σ H xs us Q I rv h
 obtain ⟨x,n,t,b,rfl,ty,e,q⟩:=h
 obtain ⟨u,v,rfl,ru,rv'⟩:=rv.two
 cases rv'
 exact isinst_ok I ru ty e fun tk=>⟨.bl b,H,I.tok tk,rfl,q⟩
end
theorem bb_len:bootBuiltins "len" = some (.builtin "len"):=boot_len
theorem bb_zip:bootBuiltins "zip" = some (.type "zip"):=by kernel_rfl
theorem bb_all:bootBuiltins "all" = some (.builtin "all"):=by kernel_rfl
theorem bb_any:bootBuiltins "any" = some (.builtin "any"):=by kernel_rfl
theorem bb_sum:bootBuiltins "sum" = some (.builtin "sum"):=by kernel_rfl
theorem bb_min:bootBuiltins "min" = some (.builtin "min"):=by kernel_rfl
theorem bb_max:bootBuiltins "max" = some (.builtin "max"):=by kernel_rfl
theorem bb_isinstance:bootBuiltins "isinstance" = some (.builtin "isinstance"):=by kernel_rfl
theorem bb_sorted:bootBuiltins "sorted" = some (.builtin "sorted"):=by kernel_rfl
theorem bb_tuple:bootBuiltins "tuple" = some (.type "tuple"):=by kernel_rfl
theorem bb_list:bootBuiltins "list" = some (.type "list"):=by kernel_rfl
theorem bb_int:bootBuiltins "int" = some (.type "int"):=by kernel_rfl
theorem bb_bool:bootBuiltins "bool" = some (.type "bool"):=by kernel_rfl
theorem comp_by {src:List (Option Nat)} {g:TG} {tt:TT} {te:TE} {σ:St} {Q:VK} {J:It} {H1:Hp} (n:Nat) (Pv:Nat→List V→Hp→Prop) (h0:Pv 0 [] H1)
  (hs:∀ i ys H,i < n→Pv i ys H→J.go i H∧ys.length < sizeLine∧∀ x H',J.yld i H x H'→g x (blkSt src σ) H' fun σ2 H2=>Sub (blkSt src σ) σ2∧tt σ2 H2 fun b H3=>if b=true then te σ2 H3 fun v H4=>Pv (i+1) (ys++[v]) H4 else Pv (i+1) ys H3)
  (hd:∀ ys H,Pv n ys H→J.stop n H∧ys.length≤sizeLine∧∀ p,H p=none→Q (.ref p) (upd H p (.lst ys))):CompW src g tt te σ Q J H1:=by
 refine ⟨fun i m ys H=>m=n - i∧i≤n∧Pv i ys H,⟨n,by omega,Nat.zero_le _,h0⟩,?_⟩
 rintro i m ys H ⟨rfl,hi,p⟩
 by_cases hlt:i < n
 ·obtain ⟨q1,q2,q3⟩:=hs i ys H hlt p
  exact .inr ⟨q1,q2,Pv (i+1),fun zs H' p'=>⟨n - (i+1),by omega,rfl,hlt,p'⟩,q3⟩
 ·have e:i=n:=by omega
  subst e
  exact .inl (hd ys H p)
theorem comp_range {src:List (Option Nat)} {g:TG} {tt:TT} {te:TE} {σ:St} {Q:VK} {lo:Int} {n:Nat} {H1:Hp} (hn:n≤sizeLine) (Pv:Nat→List V→Hp→Prop) (h0:Pv 0 [] H1)
  (hl:∀ i ys H,Pv i ys H→ys.length≤i)
  (hs:∀ i ys H,i < n→Pv i ys H→g (.int (lo+i)) (blkSt src σ) H fun σ2 H2=>Sub (blkSt src σ) σ2∧tt σ2 H2 fun b H3=>if b=true then te σ2 H3 fun v H4=>Pv (i+1) (ys++[v]) H4 else Pv (i+1) ys H3)
  (hd:∀ ys H,Pv n ys H→∀ p,H p=none→Q (.ref p) (upd H p (.lst ys))):CompW src g tt te σ Q (Itr lo n) H1 :=
 comp_by n Pv h0 (fun i ys H hi p=>⟨hi,by have:=hl i ys H p; omega,fun x H' y=>by obtain ⟨e,y⟩:=y; subst e y; exact hs i ys _ hi p⟩)
  fun ys H p=>⟨Nat.le_refl _,Nat.le_trans (hl n ys H p) hn,hd ys H p⟩
theorem comp_list {K:PySem.W.Frag} {src:List (Option Nat)} {g:TG} {tt:TT} {te:TE} {σ:St} {Q:VK} {a:Addr} {xs:List V} {H1:Hp} (hn:xs.length≤sizeLine) (Pv:Nat→List V→Hp→Prop) (h0:Pv 0 [] H1)
  (hq:∀ i ys H,i≤xs.length→Pv i ys H→SqL K H a xs∧ys.length≤i)
  (hs:∀ i x ys H,xs[i]?=some x→Pv i ys H→g x (blkSt src σ) H fun σ2 H2=>Sub (blkSt src σ) σ2∧tt σ2 H2 fun b H3=>if b=true then te σ2 H3 fun v H4=>Pv (i+1) (ys++[v]) H4 else Pv (i+1) ys H3)
  (hd:∀ ys H,Pv xs.length ys H→∀ p,H p=none→Q (.ref p) (upd H p (.lst ys))):CompW src g tt te σ Q (Itl K a) H1 :=
 comp_by xs.length Pv h0 (fun i ys H hi p=>by
   obtain ⟨q1,q2⟩:=hq i ys H (Nat.le_of_lt hi) p
   refine ⟨⟨xs,xs[i],q1,List.getElem?_eq_getElem hi⟩,by omega,fun x H' y=>?_⟩
   obtain ⟨e,y⟩:=y
   subst e
   exact hs i x ys _ (y xs q1) p)
  fun ys H p=>by
   obtain ⟨q1,q2⟩:=hq _ ys H (Nat.le_refl _) p
   exact ⟨⟨xs,q1,Nat.le_refl _⟩,by omega,hd ys H p⟩
theorem comp_tup {K:PySem.W.Frag} {src:List (Option Nat)} {g:TG} {tt:TT} {te:TE} {σ:St} {Q:VK} {a:Addr} {xs:List V} {H1:Hp} (hn:xs.length≤sizeLine) (Pv:Nat→List V→Hp→Prop) (h0:Pv 0 [] H1)
  (hq:∀ i ys H,i≤xs.length→Pv i ys H→SqT K H a xs∧ys.length≤i)
  (hs:∀ i x ys H,xs[i]?=some x→Pv i ys H→g x (blkSt src σ) H fun σ2 H2=>Sub (blkSt src σ) σ2∧tt σ2 H2 fun b H3=>if b=true then te σ2 H3 fun v H4=>Pv (i+1) (ys++[v]) H4 else Pv (i+1) ys H3)
  (hd:∀ ys H,Pv xs.length ys H→∀ p,H p=none→Q (.ref p) (upd H p (.lst ys))):CompW src g tt te σ Q (Itt K a) H1 :=
 comp_by xs.length Pv h0 (fun i ys H hi p=>by
   obtain ⟨q1,q2⟩:=hq i ys H (Nat.le_of_lt hi) p
   refine ⟨⟨xs,xs[i],q1,List.getElem?_eq_getElem hi⟩,by omega,fun x H' y=>?_⟩
   obtain ⟨e,y⟩:=y
   subst e
   exact hs i x ys _ (y xs q1) p)
  fun ys H p=>by
   obtain ⟨q1,q2⟩:=hq _ ys H (Nat.le_refl _) p
   exact ⟨⟨xs,q1,Nat.le_refl _⟩,by omega,hd ys H p⟩
theorem comp_zip {K:PySem.W.Frag} {src:List (Option Nat)} {g:TG} {tt:TT} {te:TE} {σ:St} {Q:VK} {k1 k2:Bool} {a b:Addr} {xs zs:List V} {H1:Hp} (hn:xs.length≤sizeLine) (Pv:Nat→List V→Hp→Prop) (h0:Pv 0 [] H1)
  (hq:∀ i ys H,i≤xs.length→i≤zs.length→Pv i ys H→SqK k1 K H a xs∧SqK k2 K H b zs∧ys.length≤i)
  (hs:∀ i x z ys H p,xs[i]?=some x→zs[i]?=some z→Pv i ys H→H p=none→g (.ref p) (blkSt src σ) (upd H p (.tup [x,z])) fun σ2 H2=>Sub (blkSt src σ) σ2∧tt σ2 H2 fun b H3=>if b=true then te σ2 H3 fun v H4=>Pv (i+1) (ys++[v]) H4 else Pv (i+1) ys H3)
  (hd:∀ ys H,Pv (min xs.length zs.length) ys H→∀ p,H p=none→Q (.ref p) (upd H p (.lst ys))):CompW src g tt te σ Q (Itz K k1 k2 a b) H1 :=
 comp_by (min xs.length zs.length) Pv h0 (fun i ys H hi p=>by
   have hi1:i < xs.length:=by omega
   have hi2:i < zs.length:=by omega
   obtain ⟨q1,q2,q3⟩:=hq i ys H (by omega) (by omega) p
   refine ⟨⟨xs,zs,xs[i],zs[i],q1,q2,List.getElem?_eq_getElem hi1,List.getElem?_eq_getElem hi2⟩,by omega,fun x H' y=>?_⟩
   obtain ⟨pp,x',z',e,e2,e3,y1,y2⟩:=y
   subst e e3
   exact hs i x' z' ys _ pp (y1 xs q1) (y2 zs q2) p e2)
  fun ys H p=>by
   obtain ⟨q1,q2,q3⟩:=hq _ ys H (by omega) (by omega) p
   exact ⟨⟨xs,zs,q1,q2,by omega⟩,by omega,hd ys H p⟩
theorem for_zip {K:PySem.W.Frag} {k1 k2:Bool} {a b:Addr} {xs zs:List V} {g:TG} {tb:TS} {D:Ends} {σ:St} {H:Hp} (Pv:Nat→St→Hp→Prop) (h0:Pv 0 σ H)
  (hl:∀ i σ H,i≤xs.length→i≤zs.length→Pv i σ H→SqK k1 K H a xs∧SqK k2 K H b zs)
  (hs:∀ i x z σ H p,xs[i]?=some x→zs[i]?=some z→Pv i σ H→H p=none→g (.ref p) σ (upd H p (.tup [x,z])) fun σ2 H2=>tb { D with nx:=Pv (i+1),ct:=Pv (i+1),bk:=D.nx } σ2 H2) (hd:∀ σ H,Pv (min xs.length zs.length) σ H→D.nx σ H) :
  ∃ W:Nat→Nat→St→Hp→Prop,(∃ m,W 0 m σ H)∧∀ i m σ H,W i m σ H →
   ((Itz K k1 k2 a b).stop i H∧D.nx σ H)∨((Itz K k1 k2 a b).go i H∧∃ N:St→Hp→Prop,(∀ σ' H',N σ' H'→∃ m',m' < m∧W (i+1) m' σ' H')∧∀ x H',(Itz K k1 k2 a b).yld i H x H'→g x σ H' fun σ2 H2=>tb { D with nx:=N,ct:=N,bk:=D.nx } σ2 H2):=by
 refine ⟨fun i m σ H=>m=min xs.length zs.length - i∧i≤min xs.length zs.length∧Pv i σ H,⟨_,rfl,Nat.zero_le _,h0⟩,?_⟩
 rintro i m σ H ⟨rfl,hi,p⟩
 obtain ⟨q1,q2⟩:=hl i σ H (by omega) (by omega) p
 by_cases hlt:i < min xs.length zs.length
 ·have hi1:i < xs.length:=by omega
  have hi2:i < zs.length:=by omega
  refine .inr ⟨⟨xs,zs,xs[i],zs[i],q1,q2,List.getElem?_eq_getElem hi1,List.getElem?_eq_getElem hi2⟩,Pv (i+1),fun σ' H' p'=>⟨_,by omega,rfl,hlt,p'⟩,fun x H' y=>?_⟩
  obtain ⟨pp,x',z',e,e2,e3,y1,y2⟩:=y
  subst e e3
  exact hs i x' z' σ _ pp (y1 xs q1) (y2 zs q2) p e2
 ·have e:i=min xs.length zs.length:=by omega
  subst e
  exact .inl ⟨⟨xs,zs,q1,q2,by omega⟩,hd σ H p⟩
structure Ok (P:Program) (w:World) (K:PySem.W.Frag) (mg:Str→Option Value) (base:Heap) (x:Str) (k:Nat) (ps:List Str) (sp:Sp):Prop where
 ex:∃ f fd,mg x=some (.ref f)∧PySem.W.keepIn K (.ref f)=true∧Binds K fd ps []∧FnOk P w K mg base CX0 k f fd ps sp
structure FunAt (K:PySem.W.Frag) (mg:Str→Option Value) (x:Str) (st:Stmt) (ps:List Str):Prop where
 ex:∃ f fd,mg x=some (.ref f)∧Fun K x x st f fd∧Binds K fd ps []
section
variable {P:Program} {w:World} {K:PySem.W.Frag} {mg:Str→Option Value} {base:Heap}
theorem Ok.imp {x:Str} {k:Nat} {ps:List Str} {sp sp':Sp} (O:Ok P w K mg base x k ps sp) (h:∀ vs H Q E,sp' vs H Q E→sp vs H Q E):Ok P w K mg base x k ps sp':=by
 obtain ⟨f,fd,h1,h2,h3,h4⟩:=O.ex
 exact ⟨f,fd,h1,h2,h3,h4.imp h⟩
theorem FunAt.ok {x:Str} {st:Stmt} {N ps:List Str} {k:Nat} {sp:Sp} (F:FunAt K mg x st ps) (S:FnScope N ps (defScope st)) (len:∀ vs H Q E,sp vs H Q E→vs.length=ps.length)
  (hbody:∀ (cdv:Value) (f:Addr) (A:Around) (outer:List Env) (s:Shared) (H:Hp) (vs:List V) (Q:VK) (E:XK),Room k (A.deeper (envOfC x (defScope st) s.heap.objs.size f cdv))→sp vs H Q E →
   ∃ t,PSs (cxOf CX0 P w K mg base N x (defScope st) f cdv A outer s H E).nox (defBody st) t∧t { nx:=fun _ H'=>Q .non H',rt:=Q } (start N vs) H):Ok P w K mg base x (k+1) ps sp:=by
 obtain ⟨f,fd,h1,h2,h3⟩:=F.ex
 exact ⟨f,fd,h1,h2.kp,h3,h2.ok S len fun cdv=>hbody cdv f⟩
end
section
variable {X:Cx} {k:Nat} {ps:List Str} {sp:Sp} {x:Str} {p pos:Pos} {e:Expr} {es:List Expr} {t:TA}
theorem pe_callO (O:Ok X.prog X.w X.K X.mg X.base x k ps sp) (hr:Room k X.A) (hg:Gl X x) (ha:PA X (e::es) t) (hdb:(x == ("__debug__" : Str))=false:=by decide)
  (he:starEach (e::es) X.env=(false,eval e X.env)::starEach es X.env:=by rfl) (hpl:(backTo pos (starEach es X.env)).any (·.1)=false:=by rfl):PE X (.Call (.Name x p) (e::es) [] pos) (tCall sp [] E0 t):=by
 obtain ⟨f,fd,h1,h2,h3,h4⟩:=O.ex
 exact pe_call h4 hr hg h1 h2 h3 .nil pass0 ha hdb he hpl
end
inductive EqV (K:PySem.W.Frag) (H:Hp):Nat→V→V→Bool→Prop
 | flat {n:Nat} {x y:V} (fx:flatV x=true) (fy:flatV y=true):EqV K H n x y (eqV x y)
 | tup {n:Nat} {a b:Addr} {xs ys:List V} (e:Nat→Bool) (ha:SqT K H a xs) (hb:SqT K H b ys) (he:∀ j x y,xs[j]?=some x→ys[j]?=some y→EqV K H n x y (e j)) :
   EqV K H (n+1) (.ref a) (.ref b) ((List.range (min xs.length ys.length)).all e && xs.length == ys.length)
 | lst {n:Nat} {a b:Addr} {xs ys:List V} (e:Nat→Bool) (ha:SqL K H a xs) (hb:SqL K H b ys) (he:∀ j x y,xs[j]?=some x→ys[j]?=some y→EqV K H n x y (e j)) :
   EqV K H (n+1) (.ref a) (.ref b) ((List.range (min xs.length ys.length)).all e && xs.length == ys.length)
theorem eqV_refl:∀ {x:V},flatV x=true→eqV x x=true
 | .non,_=>rfl
 | .bl b,_=>beq_self_eq_true b
 | .int i,_=>beq_self_eq_true i
 | .str y,_=>beq_self_eq_true y
 | .byt _,h=>by cases h
 | .flt _,h=>by cases h
 | .ref _,h=>by cases h
 | .ty _,h=>by cases h
section
variable {X:Cx} {pins:List (Addr×Obj)} {σ:St} {H:Hp} {s:Shared}
theorem EqV.same {n:Nat} {x y:V} {b:Bool} (I:Inv X pins σ H s) (h:EqV X.K H n x y b):x=y→b=true:=by
 induction h with
 | flat fx fy=>rintro rfl; exact eqV_refl fx
 | tup e ha hb he ih =>
  intro z
  cases z
  have q:=I.tuple_inj ha hb
  subst q
  simp only [Nat.min_self,Bool.and_eq_true,beq_self_eq_true,and_true,List.all_eq_true,List.mem_range]
  intro j hj
  exact ih j _ _ (List.getElem?_eq_getElem hj) (List.getElem?_eq_getElem hj) rfl
 | lst e ha hb he ih =>
  intro z
  cases z
  have q:=I.list_inj ha hb
  subst q
  simp only [Nat.min_self,Bool.and_eq_true,beq_self_eq_true,and_true,List.all_eq_true,List.mem_range]
  intro j hj
  exact ih j _ _ (List.getElem?_eq_getElem hj) (List.getElem?_eq_getElem hj) rfl
theorem vals_rel {xs:List V} {us:List Value} {j:Nat} {u:Value} (r:Vals xs us) (h:us[j]?=some u):∃ x,xs[j]?=some x∧RelV x u:=by
 obtain ⟨hj,_⟩:=List.getElem?_eq_some_iff.mp h
 have hj':j < xs.length:=by rw [r.length]; exact hj
 have hx:xs[j]?=some xs[j]:=List.getElem?_eq_getElem hj'
 obtain ⟨u',e,q⟩:=r.get hx
 rw [h] at e
 cases e
 exact ⟨_,hx,q⟩
theorem EqV.at {n:Nat} {x y:V} {b:Bool} (I:Inv X pins σ H s) (h:EqV X.K H n x y b):∀ {A:Around} {u v:Value},A.units+n < cLine→RelV x u→RelV y v→SeqAt.EqAt A s u v b:=by
 induction h with
 | flat fx fy=>intro A u v _ ru rv; exact eqAt_V ru rv fx fy
 | @tup n a b xs ys e ha hb he ih =>
  intro A u v hu ru rv
  cases ru
  cases rv
  by_cases hab:a=b
  ·have:=(EqV.tup e ha hb he).same I (by rw [hab])
   rw [this,hab]
   exact SeqAt.EqAt.same _
  ·obtain ⟨us,r1,p1,_⟩:=I.tuple ha
   obtain ⟨ws,r2,p2,_⟩:=I.tuple hb
   rw [r1.length,r2.length]
   refine SeqAt.EqAt.of_refs hab ?_
   have:=SeqAt.RcAt.tuples (A:=A) (s:=s) (e:=e) (show s.heap.IsTuple a us.toArray from p1) (show s.heap.IsTuple b ws.toArray from p2) (by omega) (fun j h1 h2=>?_)
   ·simpa using this
   ·have h1':us[j]?=some us.toArray[j]:=by simp at h1 ⊢
    have h2':ws[j]?=some ws.toArray[j]:=by simp at h2 ⊢
    obtain ⟨x,ex,rx⟩:=vals_rel r1 h1'
    obtain ⟨y,ey,ry⟩:=vals_rel r2 h2'
    exact ih j x y ex ey (by show A.units+1+n < cLine; omega) rx ry
 | @lst n a b xs ys e ha hb he ih =>
  intro A u v hu ru rv
  cases ru
  cases rv
  by_cases hab:a=b
  ·have:=(EqV.lst e ha hb he).same I (by rw [hab])
   rw [this,hab]
   exact SeqAt.EqAt.same _
  ·obtain ⟨us,r1,p1,_⟩:=I.list ha
   obtain ⟨ws,r2,p2,_⟩:=I.list hb
   rw [r1.length,r2.length]
   refine SeqAt.EqAt.of_refs hab ?_
   by_cases hl:us.length=ws.length
   ·have:=SeqAt.RcAt.lists (A:=A) (s:=s) (e:=e) p1.isList p2.isList (by simpa using hl) (by omega) (fun j h1 h2=>?_)
    ·simpa [hl] using this
    ·have h1':us[j]?=some us.toArray[j]:=by simp at h1 ⊢
     have h2':ws[j]?=some ws.toArray[j]:=by simp at h2 ⊢
     obtain ⟨x,ex,rx⟩:=vals_rel r1 h1'
     obtain ⟨y,ey,ry⟩:=vals_rel r2 h2'
     exact ih j x y ex ey (by show A.units+1+n < cLine; omega) rx ry
   ·have:=SeqAt.RcAt.lists_lengths (A:=A) (s:=s) p1.isList p2.isList (by simpa using hl) (by omega)
    have e0:(us.length == ws.length)=false:=by simpa using hl
    rw [e0,Bool.and_false]
    exact this
end
def rEqD (K:PySem.W.Frag) (neg:Bool):R2:=fun x y H Q=>∃ n b,n≤50∧EqV K H n x y b∧(∃ a c,x=.ref a∧y=.ref c)∧Q (.bl (if neg then !b else b)) H
section
variable {X:Cx}
theorem op_eqD (hu:X.A.units+60 < cLine):OpR X (compareOp .Eq) (rEqD X.K false):=by
 intro pins s σ H x y v u Q I rx ry h
 obtain ⟨n,b,hn,he,⟨a,c,rfl,rfl⟩,q⟩:=h
 cases rx
 cases ry
 show wpAny _ _ (richCompare .Eq (.ref a) (.ref c)) _ _ s
 have key:SeqAt.RcAt X.A s (.ref a) (.ref c) b:=by
  cases he with
  | flat fx fy=>cases fx
  | @tup n _ _ xs ys e ha hb he =>
   obtain ⟨us,r1,p1,_⟩:=I.tuple ha
   obtain ⟨ws,r2,p2,_⟩:=I.tuple hb
   rw [r1.length,r2.length]
   have:=SeqAt.RcAt.tuples (A:=X.A) (s:=s) (e:=e) (show s.heap.IsTuple a us.toArray from p1) (show s.heap.IsTuple c ws.toArray from p2) (by omega) (fun j h1 h2=>?_)
   ·simpa using this
   ·have h1':us[j]?=some us.toArray[j]:=by simp at h1 ⊢
    have h2':ws[j]?=some ws.toArray[j]:=by simp at h2 ⊢
    obtain ⟨x,ex,rx⟩:=vals_rel r1 h1'
    obtain ⟨y,ey,ry⟩:=vals_rel r2 h2'
    exact (he j x y ex ey).at I (by show X.A.units+1+n < cLine; omega) rx ry
  | @lst n _ _ xs ys e ha hb he =>
   obtain ⟨us,r1,p1,_⟩:=I.list ha
   obtain ⟨ws,r2,p2,_⟩:=I.list hb
   rw [r1.length,r2.length]
   by_cases hl:us.length=ws.length
   ·have:=SeqAt.RcAt.lists (A:=X.A) (s:=s) (e:=e) p1.isList p2.isList (by simpa using hl) (by omega) (fun j h1 h2=>?_)
    ·simpa [hl] using this
    ·have h1':us[j]?=some us.toArray[j]:=by simp at h1 ⊢
     have h2':ws[j]?=some ws.toArray[j]:=by simp at h2 ⊢
     obtain ⟨x,ex,rx⟩:=vals_rel r1 h1'
     obtain ⟨y,ey,ry⟩:=vals_rel r2 h2'
     exact (he j x y ex ey).at I (by show X.A.units+1+n < cLine; omega) rx ry
   ·have:=SeqAt.RcAt.lists_lengths (A:=X.A) (s:=s) p1.isList p2.isList (by simpa using hl) (by omega)
    have e0:(us.length == ws.length)=false:=by simpa using hl
    rw [e0,Bool.and_false]
    exact this
 exact key _ _ _ _ ⟨.bl _,H,I,rfl,q⟩
theorem op_neD (hu:X.A.units+60 < cLine):OpR X (compareOp .NotEq) (rEqD X.K true):=by
 intro pins s σ H x y v u Q I rx ry h
 obtain ⟨n,b,hn,he,⟨a,c,rfl,rfl⟩,q⟩:=h
 cases rx
 cases ry
 show wpAny _ _ (richCompare .NotEq (.ref a) (.ref c)) _ _ s
 have key:SeqAt.RcNeAt X.A s (.ref a) (.ref c) (!b):=by
  cases he with
  | flat fx fy=>cases fx
  | @tup n _ _ xs ys e ha hb he =>
   obtain ⟨us,r1,p1,_⟩:=I.tuple ha
   obtain ⟨ws,r2,p2,_⟩:=I.tuple hb
   rw [r1.length,r2.length]
   have:=SeqAt.RcNeAt.tuples (A:=X.A) (s:=s) (e:=e) (show s.heap.IsTuple a us.toArray from p1) (show s.heap.IsTuple c ws.toArray from p2) (by omega) (fun j h1 h2=>?_)
   ·simpa using this
   ·have h1':us[j]?=some us.toArray[j]:=by simp at h1 ⊢
    have h2':ws[j]?=some ws.toArray[j]:=by simp at h2 ⊢
    obtain ⟨x,ex,rx⟩:=vals_rel r1 h1'
    obtain ⟨y,ey,ry⟩:=vals_rel r2 h2'
    exact (he j x y ex ey).at I (by show X.A.units+1+n < cLine; omega) rx ry
  | @lst n _ _ xs ys e ha hb he =>
   obtain ⟨us,r1,p1,_⟩:=I.list ha
   obtain ⟨ws,r2,p2,_⟩:=I.list hb
   rw [r1.length,r2.length]
   by_cases hl:us.length=ws.length
   ·have:=SeqAt.RcNeAt.lists (A:=X.A) (s:=s) (e:=e) p1.isList p2.isList (by simpa using hl) (by omega) (fun j h1 h2=>?_)
    ·simpa [hl] using this
    ·have h1':us[j]?=some us.toArray[j]:=by simp at h1 ⊢
     have h2':ws[j]?=some ws.toArray[j]:=by simp at h2 ⊢
     obtain ⟨x,ex,rx⟩:=vals_rel r1 h1'
     obtain ⟨y,ey,ry⟩:=vals_rel r2 h2'
     exact (he j x y ex ey).at I (by show X.A.units+1+n < cLine; omega) rx ry
   ·have:=SeqAt.RcNeAt.lists_lengths (A:=X.A) (s:=s) p1.isList p2.isList (by simpa using hl) (by omega)
    have e0:(us.length == ws.length)=false:=by simpa using hl
    rw [e0,Bool.and_false]
    exact this
 exact key _ _ _ _ ⟨.bl _,H,I,rfl,q⟩
theorem all_int {ns ms:List Int}:((List.range (min ns.length ms.length)).all (fun j=>decide (ns.getD j 0=ms.getD j 0)) && ns.length == ms.length)=decide (ns=ms):=by
 rw [Bool.eq_iff_iff]
 simp only [Bool.and_eq_true,List.all_eq_true,List.mem_range,decide_eq_true_eq,beq_iff_eq]
 constructor
 ·rintro ⟨h1,h2⟩
  refine List.ext_getElem h2 fun i a b=>?_
  have:=h1 i (by omega)
  simpa [List.getD_eq_getElem?_getD,a,b] using this
 ·rintro rfl
  exact ⟨fun _ _=>rfl,rfl⟩
theorem int_at {ns:List Int} {j:Nat} {x:V} (h:(ns.map V.int)[j]?=some x):x=.int (ns.getD j 0)∧j < ns.length:=by
 rw [List.getElem?_map] at h
 cases e:ns[j]? with
 | none=>rw [e] at h; cases h
 | some z =>
  rw [e] at h
  obtain ⟨hj,_⟩:=List.getElem?_eq_some_iff.mp e
  exact ⟨by rw [List.getD_eq_getElem?_getD,e]; exact (Option.some.inj h).symm,hj⟩
theorem EqV.ints {K:PySem.W.Frag} {H:Hp} {k:Bool} {a b:Addr} {ns ms:List Int} (ha:SqK k K H a (ns.map V.int)) (hb:SqK k K H b (ms.map V.int)):EqV K H 1 (.ref a) (.ref b) (decide (ns=ms)):=by
 have step:∀ j x y,(ns.map V.int)[j]?=some x→(ms.map V.int)[j]?=some y→EqV K H 0 x y (decide (ns.getD j 0=ms.getD j 0)):=fun j x y hx hy=>by
  obtain ⟨rfl,_⟩:=int_at hx
  obtain ⟨rfl,_⟩:=int_at hy
  have:=EqV.flat (K:=K) (H:=H) (n:=0) (x:=.int (ns.getD j 0)) (y:=.int (ms.getD j 0)) rfl rfl
  rw [show eqV (.int (ns.getD j 0)) (.int (ms.getD j 0))=decide (ns.getD j 0=ms.getD j 0) from rfl] at this
  exact this
 rw [← all_int]
 cases k
 ·have:=EqV.lst (fun j=>decide (ns.getD j 0=ms.getD j 0)) ha hb step
  simpa using this
 ·have:=EqV.tup (fun j=>decide (ns.getD j 0=ms.getD j 0)) ha hb step
  simpa using this
def rPlusT:R2:=fun x y H Q=>∃ a b xs ys,x=.ref a∧y=.ref b∧H a=some (.tup xs)∧H b=some (.tup ys)∧xs.length+ys.length≤sizeLine∧∀ p H',Same H H'→H' p=some (.tup (xs++ys))→Q (.ref p) H'
theorem op_plusT:OpR X (binaryOp .Add) rPlusT:=by
 intro pins s σ H x y v u Q I rx ry h
 obtain ⟨a,b,xs,ys,rfl,rfl,ha,hb,hz,q⟩:=h
 by_cases hx:xs=[]
 ·subst hx
  cases rx
  cases ry
  obtain ⟨its,r1,p1,_⟩:=I.tuple (.inl (.inl ha))
  obtain ⟨its2,r2,p2,_⟩:=I.tuple (.inl (.inl hb))
  cases r1
  obtain ⟨⟨cls,dd,data,sl⟩,ho,hc,n,hd⟩:=id p1
  obtain ⟨⟨cls2,dd2,data2,sl2⟩,ho2,hc2,n2,hd2⟩:=id p2
  simp only at hc hd hc2 hd2
  subst hc hd hc2 hd2
  exact concat_meets ⟨_,ho,rfl⟩ ⟨_,ho2,rfl⟩ noFill_tuple_add seq_tuple_add PySem.F.slot_tuple_add PySem.F.entry_tuple_add (PySem.F.args_tuple_add_2 _ _)
   (tuple_addW0 a b _ _ n n2 dd dd2 sl sl2 (by simp)) ⟨ho,ho2,⟨.ref b,H,I,rfl,q b H (Same.refl H) hb⟩⟩
 ·refine op_catT pins s σ H _ _ v u Q I rx ry ⟨a,b,xs,ys,rfl,rfl,.inl (.inl ha),.inl (.inl hb),hx,hz,fun e=>?_,fun _ p hp=>?_⟩
  ·subst e
   exact q a H (Same.refl H) (by rw [List.append_nil]; exact ha)
  ·exact q p _ (fun c o e=>by rw [upd_ne (ne_of_none e hp)]; exact e) upd_same
end
open PySem.AutoSeq1 (wpAny_loadPart')
theorem noFill_tuple_mul:fillsNumberSlot (.type "tuple") "mul" = pure false :=
 PySem.fillsNumberSlot_seq (id := "tuple.__mul__") (r:=some (.builtin "tuple.__rmul__")) F.slot_tuple_mul.lookup (by decide +kernel) F.slot_tuple_rmul.lookup (by decide +kernel)
theorem repeat_tuple:seqRepeat? (.type "tuple")=pure (some (.builtin "tuple.__mul__")):=by
 unfold seqRepeat?
 rw [PySem.seqSlot_of (T := "tuple") (name := "__mul__") (id := "tuple.__mul__") F.slot_tuple_mul.lookup (by decide +kernel),PySem.seqSlot_of (T := "tuple") (name := "__rmul__") (id := "tuple.__rmul__") F.slot_tuple_rmul.lookup (by decide +kernel)]
 rfl
theorem rmul_tuple (a:Int) (t:Tok) (l:Addr) (items:Array Value) (n:Nat) (dd:Option Addr) (sl:Array (Option Value)) :
  Meets (Builtin.«int.__rmul__» ⟨[.int a t,.ref l],[]⟩) (fun _ R s=>s.heap.get? l=some { cls:=.type "tuple",dict:=dd,data:=.seq items n,slots:=sl }∧R (.ok (.ret Value.notImplemented)) s) :=
 .of_wp fun prog w A R s h=>by obtain ⟨hp,g,d,tk,os⟩:=s; obtain ⟨hl,h⟩:=h; wp_walk; exact ⟨_,rfl,h⟩
theorem tuple_mul1 (l:Addr) (items:Array Value) (n:Nat) (dd:Option Addr) (sl:Array (Option Value)) (u:Tok) :
  Meets (Builtin.«tuple.__mul__» ⟨[.ref l,.int 1 u],[]⟩) (fun _ R s=>s.heap.get? l=some { cls:=.type "tuple",dict:=dd,data:=.seq items n,slots:=sl }∧R (.ok (.ret (.ref l))) s) :=
 .of_wp fun prog w A R s h=>by
  obtain ⟨hp,g,d,tk,os⟩:=s; obtain ⟨hl,h⟩:=h
  have f1:=AutoSeq1.idx_int
  wp_walk using wpAny_loadPart' hl
  exact ⟨_,rfl,h⟩
theorem tuple_mulN (l:Addr) (items:Array Value) (n:Nat) (dd:Option Addr) (sl:Array (Option Value)) (x:Int) (u:Tok) (he:items.isEmpty=false) (h1:1 < x) (h2:¬ (decide (x < -(2 ^ 63)) || decide (x ≥ 2 ^ 63))=true)
  (h3:¬ ((items.size:Int)*x > (2 ^ 63 - 1) / 8)) (h4:¬ Builtin.Tuple.tupleTooMany ((items.size:Int)*x)=true) (hsz:(List.foldl (fun x1 x2=>x1++x2) #[] (List.replicate x.toNat items)).size≤sizeLine) :
  Meets (Builtin.«tuple.__mul__» ⟨[.ref l,.int x u],[]⟩) (fun _ R s=>s.heap.get? l=some { cls:=.type "tuple",dict:=dd,data:=.seq items n,slots:=sl } ∧
   R (.ok (.ret (.ref s.heap.objs.size))) { s with heap:=s.heap.push { cls:=.type "tuple",data:=.seq (List.foldl (fun x1 x2=>x1++x2) #[] (List.replicate x.toNat items)) } }) :=
 .of_wp fun prog w A R s h=>by
  obtain ⟨hp,g,d,tk,os⟩:=s; obtain ⟨hl,h⟩:=h
  have f1:=AutoSeq1.idx_int
  have e1:(x == 1)=false:=by simp; omega
  have e2:decide (x≤0)=false:=by simp; omega
  have e3:¬ ((items.isEmpty || x == 1)=true):=by rw [he,e1]; decide
  have e4:¬ ((decide (x≤0) || items.isEmpty)=true):=by rw [he,e2]; decide
  wp_walk using wpAny_loadPart' hl
  rw [if_neg h2]
  wp_walk using wpAny_loadPart' hl
  rw [if_neg h3]
  wp_walk using wpAny_loadPart' hl
  first
   | exact ⟨_,rfl,h⟩
   | (rw [if_neg h4]; wp_walk using wpAny_loadPart' hl; exact ⟨_,rfl,h⟩)
theorem foldl_flat {α:Type} (its:List α):∀ (k:Nat) (acc:List α),List.foldl (fun x1 x2=>x1++x2) acc.toArray (List.replicate k its.toArray)=(acc++(List.replicate k its).flatten).toArray
 | 0,acc=>by simp
 | k+1,acc=>by
  have e:acc.toArray++its.toArray=(acc++its).toArray:=by simp
  rw [List.replicate_succ,List.foldl_cons,e,foldl_flat its k,List.replicate_succ,List.flatten_cons,List.append_assoc]
section
variable {X:Cx}
def rRepT:R2:=fun x y H Q=>∃ a xs n,x=.ref a∧y=.int n∧H a=some (.tup xs)∧xs≠[]∧1≤n∧(xs.length:Int)*n≤(sizeLine:Int)∧∀ p H',Same H H'→H' p=some (.tup (List.replicate n.toNat xs).flatten)→Q (.ref p) H'
theorem op_repT:OpR X (binaryOp .Mult) rRepT:=by
 intro pins s σ H x y v u Q I rx ry h
 obtain ⟨a,xs,n,rfl,rfl,ha,hne,hn,hz,q⟩:=h
 cases rx
 obtain ⟨t,rfl⟩:=ry
 obtain ⟨its,r,p1,hzl⟩:=I.tuple (.inl (.inl ha))
 obtain ⟨⟨cls,dd,data,sl⟩,ho,hc,m,hd⟩:=id p1
 simp only at hc hd
 subst hc hd
 have hlen:=r.length
 have hpos:0 < its.length:=by rw [← hlen]; exact List.length_pos_iff.mpr hne
 refine wpAny_binaryOp_repeat_ref (T := "tuple") (U := "int") (by decide) ⟨_,ho,rfl⟩ (fun s'=>typeIs_int s' n t) noFill_tuple_mul F.fills_int_mul F.slot_int_rmul repeat_tuple F.slot_int_index.lookup
  (call_meets F.slot_int_rmul (typeIs_int s n t) F.entry_int_rmul (F.args_int_rmul_2 _ _) (rmul_tuple n t a its.toArray m dd sl) ⟨ho,rfl,⟨_,ho,rfl⟩,?_⟩)
 by_cases h1:n=1
 ·subst h1
  refine call_meets F.slot_tuple_mul ⟨_,ho,rfl⟩ F.entry_tuple_mul (F.args_tuple_mul_2 _ _) (tuple_mul1 a its.toArray m dd sl t) ⟨ho,.ref a,H,I,rfl,q a H (Same.refl H) ?_⟩
  rw [ha]
  simp
 ·have e0:=foldl_flat its n.toNat []
  rw [List.nil_append] at e0
  have hl:((List.replicate n.toNat its).flatten).length=n.toNat*its.length:=len_rep its n.toNat
  have hb:n.toNat*its.length≤sizeLine:=by
   have e1:((n.toNat*its.length:Nat):Int)=(xs.length:Int)*n:=by
    rw [hlen]; push_cast
    rw [Int.toNat_of_nonneg (by omega),Int.mul_comm]
   omega
  have hs:sizeLine=16777216:=sizeLine_eq
  have hsz:(its.toArray.size:Int)*n≤16777216:=by rw [List.size_toArray,← hlen]; omega
  have hnn:n≤(its.toArray.size:Int)*n:=by
   have h0:(1:Int)≤(its.toArray.size:Int):=by rw [List.size_toArray]; omega
   have:=Int.mul_le_mul_of_nonneg_right h0 (show (0:Int)≤n by omega)
   omega
  refine call_meets F.slot_tuple_mul ⟨_,ho,rfl⟩ F.entry_tuple_mul (F.args_tuple_mul_2 _ _) (tuple_mulN a its.toArray m dd sl n t (by simp; intro z; rw [z] at hpos; exact Nat.lt_irrefl _ hpos) (by omega) ?_ ?_ ?_ ?_) ⟨ho,?_⟩
  ·simp only [Bool.or_eq_true,decide_eq_true_eq,not_or]; omega
  ·omega
  ·simp only [Builtin.Tuple.tupleTooMany,decide_eq_true_eq]; omega
  ·have e0':List.foldl (fun x1 x2=>x1++x2) #[] (List.replicate n.toNat its.toArray)=(List.replicate n.toNat its).flatten.toArray:=e0
   rw [e0',List.size_toArray,hl]; exact hb
  ·have e0':List.foldl (fun x1 x2=>x1++x2) #[] (List.replicate n.toNat its.toArray)=(List.replicate n.toNat its).flatten.toArray:=e0
   rw [e0']
   have hf:H s.heap.objs.size=none:=I.hok.fresh (Nat.le_refl _)
   refine ⟨.ref s.heap.objs.size,_,I.laid (t':=s.toks) (o:=.tup (List.replicate n.toNat xs).flatten) (fun b ob q=>Heap.get?_push_of_some _ q) (Nat.le_refl _) ?_,rfl,q _ _ (fun c o e=>by rw [upd_ne (ne_of_none e hf)]; exact e) upd_same⟩
   exact ⟨by rw [len_rep,hlen]; exact hb,_,r.rep n.toNat,IsTup.new _ _⟩
end
end L2
namespace L2
open PySem PySem.Spec PyProof.Rows
section
variable {X:Cx} {pos:Pos}
theorem pg_tupK (K:PySem.W.Frag) {es:List Expr} {k:Nat} {t:TGs} {n:Nat} (hc:X.calm=true) (h:PGs X es t) (hK:X.K=K:=by rfl)
  (hn:(assignEach es X.env).length=n:=by rfl) (hst:(assignEach es X.env).findIdx? (·.1)=none:=by rfl):PG X (.Tuple es k pos) (gTup K n t):=by
 subst hK; exact pg_tup hc h hn hst
theorem pi_listK (K:PySem.W.Frag) {tg l:Expr} {tl:TE} (hl:PE X l tl) (hK:X.K=K:=by rfl):PI X tg l (iList K tl):=by subst hK; exact pi_list hl
theorem pi_tupK (K:PySem.W.Frag) {tg l:Expr} {tl:TE} (hl:PE X l tl) (hK:X.K=K:=by rfl):PI X tg l (iTup K tl):=by subst hK; exact pi_tup hl
theorem pi_zipK (K:PySem.W.Frag) {es:List Expr} {kt:Nat} {tp:Pos} {a b:Expr} {ta:TA} {p pos:Pos} (hg:Gl X "zip") (hm:X.mg "zip" = none) (ha:PA X [a,b] ta) (hK:X.K=K:=by rfl)
  (hs:starEach [a,b] X.env=[(false,eval a X.env),(false,eval b X.env)]:=by rfl) (hs2:starEach [b] X.env=[(false,eval b X.env)]:=by rfl) :
  PI X (.Tuple es kt tp) (.Call (.Name "zip" p) [a,b] [] pos) (iZip K ta):=by subst hK; exact pi_zip hg hm ha bb_zip hs hs2
def tTru (K:PySem.W.Frag) (ta:TE):TT:=fun σ H Q=>ta σ H fun x H'=>∃ k,TruV K x H' k∧Q k H'
theorem pt_truthK (K:PySem.W.Frag) {a:Expr} {ta:TE} (ha:PE X a ta) (he:∀ whole,isTrue a X.env whole=(do let v ← whole; standAt a.pos; holding [v] (truthy v))) (hK:X.K=K:=by rfl):PT X a (tTru K ta):=by
 subst hK; exact pt_truth ha he
theorem ix_listK (K:PySem.W.Frag) (hK:X.K=K:=by rfl):IxR X (rIxL K):=by subst hK; exact ix_list
theorem ix_tupK (K:PySem.W.Frag) (hK:X.K=K:=by rfl):IxR X (rIxT K):=by subst hK; exact ix_tup
theorem sl_tupK (K:PySem.W.Frag) (hK:X.K=K:=by rfl):SlR X (rSlT K):=by subst hK; exact sl_tup
theorem op_eqK (K:PySem.W.Frag) (hu:X.A.units+60 < cLine) (hK:X.K=K:=by rfl):OpR X (compareOp .Eq) (rEqD K false):=by subst hK; exact op_eqD hu
theorem op_neK (K:PySem.W.Frag) (hu:X.A.units+60 < cLine) (hK:X.K=K:=by rfl):OpR X (compareOp .NotEq) (rEqD K true):=by subst hK; exact op_neD hu
theorem call_allK (K:PySem.W.Frag) (hc:X.calm=true) (hK:X.K=K:=by rfl):CallR X (.builtin "all") (rAll K):=by subst hK; exact call_all hc
theorem call_anyK (K:PySem.W.Frag) (hc:X.calm=true) (hK:X.K=K:=by rfl):CallR X (.builtin "any") (rAny K):=by subst hK; exact call_any hc
theorem call_sumK (K:PySem.W.Frag) (hc:X.calm=true) (hK:X.K=K:=by rfl):CallR X (.builtin "sum") (rSum K):=by subst hK; exact call_sum hc
theorem call_isiK (K:PySem.W.Frag) (hK:X.K=K:=by rfl):CallR X (.builtin "isinstance") (rIsi K):=by subst hK; exact call_isi
def rLen (K:PySem.W.Frag):RL:=fun xs H Q=>∃ p ys,xs=[.ref p]∧(SqL K H p ys∨SqT K H p ys)∧Q (.int ys.length) H
def rList (K:PySem.W.Frag):RL:=fun xs H Q=>∃ p ys,xs=[.ref p]∧(SqL K H p ys∨SqT K H p ys)∧∀ l,H l=none→Q (.ref l) (upd H l (.lst ys))
def rTuple (K:PySem.W.Frag):RL:=fun xs H Q=>∃ p ys,xs=[.ref p]∧((SqL K H p ys∧∀ l,H l=none→Q (.ref l) (upd H l (.tup ys)))∨(SqT K H p ys∧Q (.ref p) H))
theorem call_lenK (K:PySem.W.Frag) (hK:X.K=K:=by rfl):CallR X (.builtin "len") (rLen K):=by subst hK; exact call_len_seq
theorem call_listK (K:PySem.W.Frag) (hK:X.K=K:=by rfl):CallR X (.type "list") (rList K):=by subst hK; exact call_list_of
theorem call_tupleK (K:PySem.W.Frag) (hK:X.K=K:=by rfl):CallR X (.type "tuple") (rTuple K):=by subst hK; exact call_tuple_of
def rMin:RL:=fun xs H Q=>∃ i j,xs=[.int i,.int j]∧Q (.int (if j < i then j else i)) H
def rMax:RL:=fun xs H Q=>∃ i j,xs=[.int i,.int j]∧Q (.int (if j > i then j else i)) H
def rInt:RL:=fun xs H Q=>(∃ i,xs=[.int i]∧Q (.int i) H)∨∃ k,xs=[.bl k]∧Q (.int (if k then 1 else 0)) H
theorem call_minK (hc:X.calm=true):CallR X (.builtin "min") rMin:=call_min2 hc
theorem call_maxK (hc:X.calm=true):CallR X (.builtin "max") rMax:=call_max2 hc
theorem call_intK:CallR X (.type "int") rInt:=call_int1
variable {o e:Expr} {es:List Expr} {to:TE} {t:TA} {name:Str} {apos cpos:Pos} {T id:String} {r:V→List V→Hp→VK→Prop}
theorem pe_bmK (K:PySem.W.Frag) (pa:PlainAttrs T) (slot:Slot T name id) (hty:typeOf (.builtin id)=pure (.type "method_descriptor")) (hm:MtR X id r) (ho:PE X o to) (ha:PA X (e::es) t) (hK:X.K=K:=by rfl)
  (hbase:attributeBase o name X.env (eval o X.env)=eval o X.env:=by rfl)
  (hfew:((backTo cpos (starEach (e::es) X.env)).all (fun x=>!x.1) && (backToKw cpos (keywordEach [] X.env)).all (fun x=>x.1.isSome)
   && decide ((e::es).length+([]:List Keyword).length+(if ([]:List Keyword).isEmpty then 0 else 1) < 30))=true:=by rfl)
  (hline:(apos.endLine == cpos.line)=true:=by rfl) (hs:starEach (e::es) X.env=(false,eval e X.env)::starEach es X.env:=by rfl) (hplain:(backTo cpos (starEach es X.env)).any (·.1)=false:=by rfl) :
  PE X (.Call (.Attribute o name apos) (e::es) [] cpos) (tBM K T r to t):=by subst hK; exact pe_bm pa slot hty hm ho ha hbase hfew hline hs hplain
end
def IT (H:Hp) (v:V) (ns:List Int):Prop:=∃ a,v=.ref a∧H a=some (.tup (ns.map V.int))
theorem IT.same {H H':Hp} {v:V} {ns:List Int} (h:IT H v ns) (s:Same H H')   : IT H' v ns:=let ⟨a,e,q⟩:=h; ⟨a,e,s a _ q⟩
theorem Same.upd {H H':Hp} {p:Addr} {o:HO} (s:Same H H') (hp:H' p=none):Same H (upd H' p o):=fun b u e=>by
 rw [upd_ne (ne_of_none (s b u e) hp)]; exact s b u e
theorem upd_keep {H:Hp} {p b:Addr} {o u:HO} (hb:H b=some u) (hp:H p=none):upd H p o b=some u:=by rw [upd_ne (ne_of_none hb hp)]; exact hb
def Off (l:List Addr) (H H':Hp):Prop:=∀ b o,b ∉ l→H b=some o→H' b=some o
theorem Off.refl (l:List Addr) (H:Hp):Off l H H:=fun _ _ _ e=>e
theorem Off.trans {l:List Addr} {H H1 H2:Hp} (a:Off l H H1) (b:Off l H1 H2):Off l H H2:=fun c o hc e=>b c o hc (a c o hc e)
theorem Same.off {l:List Addr} {H H':Hp} (s:Same H H'):Off l H H':=fun b o _ e=>s b o e
theorem Off.set {l:List Addr} {H H':Hp} {p:Addr} {o:HO} (s:Off l H H') (hp:p∈l):Off l H (L2.upd H' p o):=fun b u hb e=>by
 rw [upd_ne (by rintro rfl; exact hb hp)]; exact s b u hb e
theorem len_int (ns:List Int):(ns.map V.int).length=ns.length:=List.length_map _
theorem get_int {ns:List Int} {i:Nat} {x:V} (h:(ns.map V.int)[i]?=some x):∃ z,ns[i]?=some z∧x=.int z:=by
 rw [List.getElem?_map] at h
 cases e:ns[i]? with
 | none=>rw [e] at h; cases h
 | some z=>rw [e] at h; exact ⟨z,rfl,(Option.some.inj h).symm⟩
theorem take_zipWith {α β γ:Type} (f:α→β→γ) {xs:List α} {ys:List β} {i:Nat} {x:α} {y:β} (hx:xs[i]?=some x) (hy:ys[i]?=some y):(List.zipWith f xs ys).take (i+1)=(List.zipWith f xs ys).take i++[f x y]:=by
 have:(List.zipWith f xs ys)[i]?=some (f x y):=by rw [List.getElem?_zipWith,hx,hy]
 rw [List.take_add_one,this]
 rfl
theorem zip_ints {K:PySem.W.Frag} {src:List (Option Nat)} {σ caps:St} {Q:VK} {k1 k2:Bool} {a b:Addr} {xs ys:List Int} {H:Hp} {te:TE} (f:Int→Int→V) (ha:SqK k1 K H a (xs.map V.int)) (hb:SqK k2 K H b (ys.map V.int)) (hl:xs.length≤1000)
  (hmono:∀ H',Same H H'→SqK k1 K H' a (xs.map V.int)∧SqK k2 K H' b (ys.map V.int))
  (hsrc:blkSt src σ=none::none::caps) (hte:∀ x y H1 Q1,Same H H1→Q1 (f x y) H1→te (some (.int x)::some (.int y)::caps) H1 Q1)
  (hd:∀ H1 p,Same H H1→H1 p=none→Q (.ref p) (upd H1 p (.lst (List.zipWith f xs ys)))) :
  CompW src (gTup K 2 (gCons (gName 0) (gCons (gName 1) gNil))) tTrue te σ Q (Itz K k1 k2 a b) H:=by
 have hz:(1000:Nat)≤sizeLine:=by rw [sizeLine_eq]; decide
 refine comp_zip (xs:=xs.map V.int) (zs:=ys.map V.int) (by rw [len_int]; omega) (fun i zs H'=>Same H H'∧zs=(List.zipWith f xs ys).take i) ⟨Same.refl H,by simp⟩ (fun i zs H' _ _ h=>⟨(hmono H' h.1).1,(hmono H' h.1).2,by rw [h.2]; exact List.length_take_le _ _⟩) ?_ ?_
 ·rintro i x z zs H' p hx hy ⟨s,rfl⟩ hp
  obtain ⟨x',hx',e1⟩:=get_int hx
  obtain ⟨z',hy',e2⟩:=get_int hy
  subst e1 e2
  clear hx hy
  have s':Same H (upd H' p (.tup [.int x',.int z'])):=s.upd hp
  refine ⟨p,[.int x',.int z'],rfl,SqT.of upd_same,rfl,.int x',[.int z'],rfl,.int z',[],rfl,rfl,?_⟩
  rw [hsrc]
  show Sub _ (some (.int x')::some (.int z')::caps)∧_
  refine ⟨⟨rfl,fun j v e=>?_⟩,?_⟩
  ·match j,e with
   | 0,e=>cases e
   | 1,e=>cases e
   | j+2,e=>exact e
  ·exact hte x' z' _ _ s' ⟨s',(take_zipWith f hx' hy').symm⟩
 ·rintro zs H' ⟨s,rfl⟩ p hp
  have e:(List.zipWith f xs ys).take (min (xs.map V.int).length (ys.map V.int).length)=List.zipWith f xs ys:=by
   rw [len_int,len_int,List.take_of_length_le]
   rw [List.length_zipWith]
   exact Nat.le_refl _
  rw [e]
  exact hd H' p s hp
theorem Sub.one {caps:St} {v:V}:Sub (none::caps) (some v::caps):=⟨rfl,fun j u e=>by
 match j,e with
 | 0,e=>cases e
 | j+1,e=>exact e⟩
theorem range_by {src:List (Option Nat)} {σ caps:St} {Q:VK} {n:Nat} {H:Hp} {tt:TT} {te:TE} (hn:n≤1000) (hsrc:blkSt src σ=none::caps) (Pv:Nat→List V→Hp→Prop) (h0:Pv 0 [] H) (hl:∀ i ys H,Pv i ys H→ys.length≤i)
  (hs:∀ i ys H,i < n→Pv i ys H→tt (some (.int i)::caps) H fun b H3=>if b=true then te (some (.int i)::caps) H3 fun v H4=>Pv (i+1) (ys++[v]) H4 else Pv (i+1) ys H3)
  (hd:∀ ys H,Pv n ys H→∀ p,H p=none→Q (.ref p) (upd H p (.lst ys))):CompW src (gName 0) tt te σ Q (Itr 0 n) H:=by
 have hz:(1000:Nat)≤sizeLine:=by rw [sizeLine_eq]; decide
 refine comp_range (by omega) Pv h0 hl (fun i ys H hi p=>?_) hd
 show Sub _ ((blkSt src σ).set 0 (some (.int (0+(i:Int)))))∧_
 rw [hsrc,Int.zero_add]
 exact ⟨Sub.one,hs i ys H hi p⟩
theorem tup_ints {K:PySem.W.Frag} {src:List (Option Nat)} {σ caps:St} {Q:VK} {a:Addr} {xs:List Int} {H:Hp} {te:TE} (f:Int→V) (hl:xs.length≤1000) (hmono:∀ H',Same H H'→SqT K H' a (xs.map V.int)) (hsrc:blkSt src σ=none::caps)
  (hte:∀ x H1 Q1,x∈xs→Same H H1→Q1 (f x) H1→te (some (.int x)::caps) H1 Q1) (hd:∀ H1 p,Same H H1→H1 p=none→Q (.ref p) (upd H1 p (.lst (xs.map f)))):CompW src (gName 0) tTrue te σ Q (Itt K a) H:=by
 have hz:(1000:Nat)≤sizeLine:=by rw [sizeLine_eq]; decide
 refine comp_tup (xs:=xs.map V.int) (by rw [len_int]; omega) (fun i ys H'=>Same H H'∧ys=(xs.take i).map f) ⟨Same.refl H,by simp⟩ (fun i ys H' _ h=>⟨hmono H' h.1,by rw [h.2,List.length_map]; exact List.length_take_le _ _⟩) ?_ ?_
 ·rintro i x ys H' hx ⟨s,rfl⟩
  obtain ⟨z,hz',rfl⟩:=get_int hx
  show Sub _ ((blkSt src σ).set 0 (some (.int z)))∧_
  rw [hsrc]
  refine ⟨Sub.one,hte z H' _ (List.mem_of_getElem? hz') s ⟨s,?_⟩⟩
  rw [List.take_add_one,hz']
  simp
 ·rintro ys H' ⟨s,rfl⟩ p hp
  rw [len_int,List.take_length]
  exact hd H' p s hp
theorem range_pure {src:List (Option Nat)} {σ caps:St} {Q:VK} {n:Nat} {H:Hp} {te:TE} (f:Nat→V) (hn:n≤1000) (hsrc:blkSt src σ=none::caps) (hte:∀ (i:Nat) H1 Q1,i < n→Same H H1→Q1 (f i) H1→te (some (.int i)::caps) H1 Q1)
  (hd:∀ H1 p,Same H H1→H1 p=none→Q (.ref p) (upd H1 p (.lst ((List.range n).map f)))):CompW src (gName 0) tTrue te σ Q (Itr 0 n) H:=by
 refine range_by hn hsrc (fun i ys H'=>Same H H'∧ys=(List.range i).map f) ⟨Same.refl H,rfl⟩ (fun i ys H' h=>by rw [h.2]; simp) ?_ ?_
 ·rintro i ys H' hi ⟨s,rfl⟩
  refine hte i H' _ hi s ⟨s,?_⟩
  rw [List.range_succ,List.map_append]
  rfl
 ·rintro ys H' ⟨s,rfl⟩ p hp
  exact hd H' p s hp
theorem Room.u60 {k:Nat} {A:Around} (r:Room k A):A.units+60 < cLine:=by have:=r.un; omega
theorem seq_via {t u:TS} {D:Ends} {σ:St} {H:Hp} (Pe:St→Hp→Prop) (fin:∀ σ H,Pe σ H→u D σ H) (h:(∀ σ H,Pe σ H→u D σ H)→t { D with nx:=u D } σ H):tSeq t u D σ H:=h fin
theorem cut_lo (xs:List Int) (k:Nat) (hk:k≤xs.length):cutV (xs.map V.int) none (some (k:Int))=(xs.take k).map V.int:=by
 unfold cutV
 rw [HT.sIx_none,HT.sIx_nat,List.length_map,Nat.min_eq_left hk,List.drop_zero,Nat.sub_zero,List.map_take]
theorem cut_hi (xs:List Int) (k:Nat) (hk:k≤xs.length):cutV (xs.map V.int) (some (k:Int)) none=(xs.drop k).map V.int:=by
 unfold cutV
 rw [HT.sIx_none,HT.sIx_nat,List.length_map,Nat.min_eq_left hk,List.take_of_length_le (by simp),List.map_drop]
theorem set_split (xs:List Int) (k:Nat) (z:Int) (hk:k < xs.length):xs.take k++[z]++xs.drop (k+1)=xs.set k z:=by
 rw [List.set_eq_take_append_cons_drop,if_pos hk,List.append_assoc]
 rfl
theorem put_at {K:PySem.W.Frag} {σ:St} {H:Hp} {Q:VK} {i j:Nat} {tx:TE} {a:Addr} {xs:List Int} {k:Nat} {z:Int} (hi:σ[i]?=some (some (.ref a))) (hj:σ[j]?=some (some (.int k))) (ha:H a=some (.tup (xs.map V.int))) (hk:k < xs.length) (hl:xs.length≤1000)
  (htx:∀ H' (N:VK),Same H H'→N (.int z) H'→tx σ H' N) (q:∀ v H',Same H H'→IT H' v (xs.set k z)→Q v H') :
  tOp rPlusT (tOp rPlusT (tSl (rSlT K) (tVar i) tNoPart (tPart (tVar j))) (tTup (tCons tx tNil))) (tSl (rSlT K) (tVar i) (tPart (tOp (rI0 fun i j=>.int (i+j)) (tVar j) (tC (.int 1)))) tNoPart) σ H Q:=by
 have hz:(3000:Nat)≤sizeLine:=by rw [sizeLine_eq]; decide
 refine ⟨_,hi,_,hj,k,rfl,a,_,rfl,SqT.of ha,?_,fun p hp=>?_⟩
 ·rw [HT.sIx_none,HT.sIx_nat,List.length_map]
  omega
 ·rw [cut_lo xs k (by omega)]
  have s1:Same H (upd H p (.tup ((xs.take k).map V.int))):=(Same.refl H).upd hp
  have e1:upd H p (.tup ((xs.take k).map V.int)) p=some (.tup ((xs.take k).map V.int)):=upd_same
  generalize upd H p (.tup ((xs.take k).map V.int))=H1 at s1 e1
  refine htx H1 _ s1 ⟨by show 1≤sizeLine; omega,fun p2 hp2=>?_⟩
  have s2:Same H1 (upd H1 p2 (.tup [.int z])):=(Same.refl H1).upd hp2
  have e2:upd H1 p2 (.tup [.int z]) p2=some (.tup [.int z]):=upd_same
  generalize upd H1 p2 (.tup [.int z])=H2 at s2 e2
  refine ⟨p,p2,_,_,rfl,rfl,s2 _ _ e1,e2,?_,fun p3 H3 s3 e3=>?_⟩
  ·rw [List.length_map,List.length_take]
   show min k xs.length+1≤_
   omega
  ·have s13:Same H H3:=(s1.trans s2).trans s3
   refine ⟨_,hi,_,hj,_,_,rfl,rfl,_,rfl,a,_,rfl,SqT.of (s13 _ _ ha),?_,fun p4 hp4=>?_⟩
   ·rw [show ((k:Int)+1)=((k+1:Nat):Int) by push_cast; rfl,HT.sIx_nat,List.length_map]
    omega
   ·rw [show ((k:Int)+1)=((k+1:Nat):Int) by push_cast; rfl,cut_hi xs (k+1) (by omega)]
    have s4:Same H3 (upd H3 p4 (.tup ((xs.drop (k+1)).map V.int))):=(Same.refl H3).upd hp4
    refine ⟨p3,p4,_,_,rfl,rfl,s4 _ _ e3,upd_same,?_,fun p5 H5 s5 e5=>?_⟩
    ·rw [List.length_append,List.length_map,List.length_take,List.length_map,List.length_drop]
     show min k xs.length+1+_≤_
     omega
    ·refine q _ _ ((s13.trans s4).trans s5) ⟨p5,rfl,?_⟩
     rw [e5,← set_split xs k z hk]
     simp
structure JE (X:Cx) (e:Expr) (t:TE):Prop where
 h:PE X e t
structure JT (X:Cx) (e:Expr) (t:TT):Prop where
 h:PT X e t
structure JW (X:Cx) (e:Expr) (t:TT):Prop where
 h:PW X e t
structure JA (X:Cx) (es:List Expr) (t:TA):Prop where
 h:PA X es t
structure JS (X:Cx) (st:Stmt) (t:TS):Prop where
 h:PS X st t
structure JB (X:Cx) (st:List Stmt) (t:TS):Prop where
 h:PSs X st t
structure JG (X:Cx) (tg:Expr) (t:TG):Prop where
 h:PG X tg t
structure JGs (X:Cx) (ts:List Expr) (t:TGs):Prop where
 h:PGs X ts t
structure JI (X:Cx) (tg iter:Expr) (t:TI):Prop where
 h:PI X tg iter t
structure JF (X:Cx) (ifs:List Expr) (t:TT):Prop where
 h:PIf X ifs t
structure JO (X:Cx) (e:Option Expr) (t:TO):Prop where
 h:PO X e t
section
variable {X:Cx} {a b c e o:Expr} {es rest:List Expr} {ta tb tc te to:TE} {tA tB:TT} {t:TA} {pos p apos cpos p2:Pos}
theorem jv (i:Nat) {x:Str} (hN:X.N[i]?=some x:=by rfl) (hv:Vis X.env.scope x:=by first | exact Or.inl rfl | exact Or.inr (Or.inl rfl) | exact Or.inr (Or.inr rfl)) (hd:(x == ("__debug__" : Str))=false:=by decide)
  (hcd:(x == ("__classdict__" : Str))=false:=by decide):JE X (.Name x pos) (tVar i):=⟨pe_var hN hv hd hcd⟩
theorem j_int {i j}:JE X (.Constant (.int i) j pos) (tC (.int i)):=⟨pe_int⟩
theorem j_bl {i j}:JE X (.Constant (.bool i) j pos) (tC (.bl i)):=⟨pe_bl⟩
theorem j_non {j}:JE X (.Constant .none j pos) (tC .non):=⟨pe_non⟩
theorem j_str {x j}:JE X (.Constant (.str x) j pos) (tC (.str x)):=⟨pe_str⟩
theorem j_bltn {x:Str} {v:V} {u:Value} (hg:Gl X x) (hm:X.mg x=none) (hv:bootBuiltins x=some u) (r:RelV v u) (hn:x ≠ "__name__" := by decide) (hd:(x == ("__debug__" : Str))=false:=by decide):JE X (.Name x pos) (tC v):=⟨pe_bltn hg hm hv r hn hd⟩
theorem j_add (ha:JE X a ta) (hb:JE X b tb):JE X (.BinOp a .Add b pos) (tOp (rI0 fun i j=>.int (i+j)) ta tb):=⟨pe_op op_add ha.h hb.h⟩
theorem j_sub (ha:JE X a ta) (hb:JE X b tb):JE X (.BinOp a .Sub b pos) (tOp (rI0 fun i j=>.int (i - j)) ta tb):=⟨pe_op op_sub ha.h hb.h⟩
theorem j_mul (ha:JE X a ta) (hb:JE X b tb):JE X (.BinOp a .Mult b pos) (tOp (rI CMul fun i j=>.int (i*j)) ta tb):=⟨pe_op op_mul ha.h hb.h⟩
theorem j_mod (ha:JE X a ta) (hb:JE X b tb):JE X (.BinOp a .Mod b pos) (tOp (rI (fun _ j=>0 < j) fun i j=>.int (i % j)) ta tb):=⟨pe_op op_mod ha.h hb.h⟩
theorem j_fdiv (ha:JE X a ta) (hb:JE X b tb):JE X (.BinOp a .FloorDiv b pos) (tOp (rI CDiv fun i j=>.int (i / j)) ta tb):=⟨pe_op op_fdiv ha.h hb.h⟩
theorem j_pow (ha:JE X a ta) (hb:JE X b tb):JE X (.BinOp a .Pow b pos) (tOp (rI CPow fun i j=>.int (i ^ j.toNat)) ta tb):=⟨pe_op op_pow ha.h hb.h⟩
theorem j_plusT (ha:JE X a ta) (hb:JE X b tb):JE X (.BinOp a .Add b pos) (tOp (rPlusT) ta tb):=⟨pe_op op_plusT ha.h hb.h⟩
theorem j_cat (ha:JE X a ta) (hb:JE X b tb):JE X (.BinOp a .Add b pos) (tOp (rCat) ta tb):=⟨pe_op op_cat ha.h hb.h⟩
theorem j_repT (ha:JE X a ta) (hb:JE X b tb):JE X (.BinOp a .Mult b pos) (tOp (rRepT) ta tb):=⟨pe_op op_repT ha.h hb.h⟩
theorem j_rep (ha:JE X a ta) (hb:JE X b tb):JE X (.BinOp a .Mult b pos) (tOp (rRep) ta tb):=⟨pe_op op_rep ha.h hb.h⟩
theorem j_one {op} (h:JE X a ta):JE X (.BoolOp op [a] pos) ta:=⟨pe_one h.h⟩
theorem j_and (ha:JE X a ta) (hb:JE X (.BoolOp .And (b::rest) pos) tb):JE X (.BoolOp .And (a::b::rest) pos) (tAndV ta tb):=⟨pe_and ha.h hb.h⟩
theorem j_or (ha:JE X a ta) (hb:JE X (.BoolOp .Or (b::rest) pos) tb):JE X (.BoolOp .Or (a::b::rest) pos) (tOrV ta tb):=⟨pe_or ha.h hb.h⟩
theorem j_ifx (hc:JT X c tA) (ha:JE X a ta) (hb:JE X b tb):JE X (.IfExp c a b pos) (tIf tA ta tb):=⟨pe_ifExp hc.h ha.h hb.h⟩
theorem jv_eq (ha:JE X a ta) (hb:JE X b tb):JE X (.Compare a [.Eq] [b] pos) (tOp (rEq) ta tb):=⟨pe_cmpR op_eq ha.h hb.h (nomark _)⟩
theorem jt_eq (ha:JE X a ta) (hb:JE X b tb):JT X (.Compare a [.Eq] [b] pos) (tTest (tOp (rEq) ta tb)):=⟨pt_cmpR op_eq ha.h hb.h (nomark _)⟩
theorem jt_ne (ha:JE X a ta) (hb:JE X b tb):JT X (.Compare a [.NotEq] [b] pos) (tTest (tOp (rNe) ta tb)):=⟨pt_cmpR op_ne ha.h hb.h (nomark _)⟩
theorem jt_lt (ha:JE X a ta) (hb:JE X b tb):JT X (.Compare a [.Lt] [b] pos) (tTest (tOp (rI0 fun i j=>.bl (decide (i < j))) ta tb)):=⟨pt_cmpR op_lt ha.h hb.h (nomark _)⟩
theorem jv_le (ha:JE X a ta) (hb:JE X b tb):JE X (.Compare a [.LtE] [b] pos) (tOp (rI0 fun i j=>.bl (decide (i≤j))) ta tb):=⟨pe_cmpR op_le ha.h hb.h (nomark _)⟩
theorem jt_le (ha:JE X a ta) (hb:JE X b tb):JT X (.Compare a [.LtE] [b] pos) (tTest (tOp (rI0 fun i j=>.bl (decide (i≤j))) ta tb)):=⟨pt_cmpR op_le ha.h hb.h (nomark _)⟩
theorem jt_gt (ha:JE X a ta) (hb:JE X b tb):JT X (.Compare a [.Gt] [b] pos) (tTest (tOp (rI0 fun i j=>.bl (decide (j < i))) ta tb)):=⟨pt_cmpR op_gt ha.h hb.h (nomark _)⟩
theorem jv_ge (ha:JE X a ta) (hb:JE X b tb):JE X (.Compare a [.GtE] [b] pos) (tOp (rI0 fun i j=>.bl (decide (j≤i))) ta tb):=⟨pe_cmpR op_ge ha.h hb.h (nomark _)⟩
theorem jv_eqK (K:PySem.W.Frag) (hu:X.A.units+60 < cLine) (ha:JE X a ta) (hb:JE X b tb) (hK:X.K=K:=by rfl):JE X (.Compare a [.Eq] [b] pos) (tOp (rEqD K false) ta tb):=⟨pe_cmpR (op_eqK K hu hK) ha.h hb.h (nomark _)⟩
theorem jt_neK (K:PySem.W.Frag) (hu:X.A.units+60 < cLine) (ha:JE X a ta) (hb:JE X b tb) (hK:X.K=K:=by rfl):JT X (.Compare a [.NotEq] [b] pos) (tTest (tOp (rEqD K true) ta tb)):=⟨pt_cmpR (op_neK K hu hK) ha.h hb.h (nomark _)⟩
theorem jv_isN (ha:JE X a ta) (hb:JE X b tb):JE X (.Compare a [.Is] [b] pos) (tOp (fun x y H Q=>y=.non∧Q (.bl (decide (x=.non))) H) ta tb):=⟨pe_cmpR op_isN ha.h hb.h (nomark _)⟩
theorem jt_isN (ha:JE X a ta) (hb:JE X b tb):JT X (.Compare a [.Is] [b] pos) (tTest (tOp (fun x y H Q=>y=.non∧Q (.bl (decide (x=.non))) H) ta tb)):=⟨pt_cmpR op_isN ha.h hb.h (nomark _)⟩
theorem jt_notN (ha:JE X a ta) (hb:JE X b tb):JT X (.Compare a [.IsNot] [b] pos) (tTest (tOp (fun x y H Q=>y=.non∧Q (.bl (!decide (x=.non))) H) ta tb)):=⟨pt_cmpR op_notN ha.h hb.h (nomark _)⟩
theorem jt_w (h:JW X e tA):JT X e tA:=⟨h.h.pt⟩
theorem jw_and1 (ha:JT X a tA):JW X (.BoolOp .And [a] pos) tA:=⟨pw_and1 ha.h⟩
theorem jw_or1 (ha:JT X a tA):JW X (.BoolOp .Or [a] pos) tA:=⟨pw_or1 ha.h⟩
theorem jw_and (ha:JT X a tA) (hb:JW X (.BoolOp .And (b::rest) pos) tB):JW X (.BoolOp .And (a::b::rest) pos) (tAnd tA tB):=⟨pw_and ha.h hb.h⟩
theorem jw_or (ha:JT X a tA) (hb:JW X (.BoolOp .Or (b::rest) pos) tB):JW X (.BoolOp .Or (a::b::rest) pos) (tOr tA tB):=⟨pw_or ha.h hb.h⟩
theorem jt_not (ha:JT X a tA):JT X (.UnaryOp .Not a pos) (tNot tA):=⟨pt_not ha.h⟩
theorem jt_tru (K:PySem.W.Frag) (ha:JE X a ta) (he:∀ whole,isTrue a X.env whole=(do let v ← whole; standAt a.pos; holding [v] (truthy v)):=by intro _; rfl) (hK:X.K=K:=by rfl):JT X a (tTru K ta):=⟨pt_truthK K ha.h he hK⟩
theorem ja_nil:JA X [] tNil:=⟨pa_nil⟩
theorem ja_cons (ha:JE X e te) (hr:JA X es t) (hs:starEach (e::es) X.env=(false,eval e X.env)::starEach es X.env:=by rfl):JA X (e::es) (tCons te t):=⟨pa_cons ha.h hr.h hs⟩
theorem j_tup {x1} (h:JA X es t):JE X (.Tuple es x1 pos) (tTup t):=⟨pe_tup h.h⟩
theorem j_lst (h:JA X es t):JE X (.List es pos) (tLst t):=⟨pe_lst h.h⟩
theorem j_ixL (K:PySem.W.Frag) (ha:JE X a ta) (hb:JE X b tb) (hs:PlainIx b:=by intro _ _; rfl) (hK:X.K=K:=by rfl):JE X (.Subscript a b pos) (tOp (rIxL K) ta tb):=⟨pe_ix (ix_listK K hK) ha.h hb.h hs⟩
theorem j_ixT (K:PySem.W.Frag) (ha:JE X a ta) (hb:JE X b tb) (hs:PlainIx b:=by intro _ _; rfl) (hK:X.K=K:=by rfl):JE X (.Subscript a b pos) (tOp (rIxT K) ta tb):=⟨pe_ix (ix_tupK K hK) ha.h hb.h hs⟩
theorem jo_none:JO X none tNoPart:=⟨po_none⟩
theorem jo_some (h:JE X e te):JO X (some e) (tPart te):=⟨po_some h.h⟩
theorem j_slT (K:PySem.W.Frag) {lo hi:Option Expr} {tl th:TO} (he:JE X e te) (hl:JO X lo tl) (hu:JO X hi th) (hK:X.K=K:=by rfl):JE X (.Subscript e (.Slice lo hi none p2) pos) (tSl (rSlT K) te tl th):=⟨pe_slice (sl_tupK K hK) he.h hl.h hu.h⟩
theorem j_call {k:Nat} {ps:List Str} {sp:Sp} {x:Str} (O:Ok X.prog X.w X.K X.mg X.base x k ps sp) (hr:Room k X.A) (hg:Gl X x) (ha:JA X (e::es) t) (hdb:(x == ("__debug__" : Str))=false:=by decide)
  (he:starEach (e::es) X.env=(false,eval e X.env)::starEach es X.env:=by rfl) (hpl:(backTo pos (starEach es X.env)).any (·.1)=false:=by rfl):JE X (.Call (.Name x p) (e::es) [] pos) (tCall sp [] E0 t):=⟨pe_callO O hr hg ha.h hdb he hpl⟩
theorem jc_len (K:PySem.W.Frag) (hg:Gl X "len") (hm:X.mg "len" = none) (ha:JA X (e::es) t) (hK:X.K=K:=by rfl) (he:starEach (e::es) X.env=(false,eval e X.env)::starEach es X.env:=by rfl) (hpl:(backTo pos (starEach es X.env)).any (·.1)=false:=by rfl):JE X (.Call (.Name "len" p) (e::es) [] pos) (tCB (rLen K) t):=⟨pe_callB (call_lenK K hK) hg hm bb_len ha.h (by decide) (by decide) he hpl⟩
theorem jc_sum (K:PySem.W.Frag) (hg:Gl X "sum") (hm:X.mg "sum" = none) (ha:JA X (e::es) t) (hc:X.calm=true:=by rfl) (hK:X.K=K:=by rfl) (he:starEach (e::es) X.env=(false,eval e X.env)::starEach es X.env:=by rfl) (hpl:(backTo pos (starEach es X.env)).any (·.1)=false:=by rfl):JE X (.Call (.Name "sum" p) (e::es) [] pos) (tCB (rSum K) t):=⟨pe_callB (call_sumK K hc hK) hg hm bb_sum ha.h (by decide) (by decide) he hpl⟩
theorem jc_all (K:PySem.W.Frag) (hg:Gl X "all") (hm:X.mg "all" = none) (ha:JA X (e::es) t) (hc:X.calm=true:=by rfl) (hK:X.K=K:=by rfl) (he:starEach (e::es) X.env=(false,eval e X.env)::starEach es X.env:=by rfl) (hpl:(backTo pos (starEach es X.env)).any (·.1)=false:=by rfl):JE X (.Call (.Name "all" p) (e::es) [] pos) (tCB (rAll K) t):=⟨pe_callB (call_allK K hc hK) hg hm bb_all ha.h (by decide) (by decide) he hpl⟩
theorem jc_any (K:PySem.W.Frag) (hg:Gl X "any") (hm:X.mg "any" = none) (ha:JA X (e::es) t) (hc:X.calm=true:=by rfl) (hK:X.K=K:=by rfl) (he:starEach (e::es) X.env=(false,eval e X.env)::starEach es X.env:=by rfl) (hpl:(backTo pos (starEach es X.env)).any (·.1)=false:=by rfl):JE X (.Call (.Name "any" p) (e::es) [] pos) (tCB (rAny K) t):=⟨pe_callB (call_anyK K hc hK) hg hm bb_any ha.h (by decide) (by decide) he hpl⟩
theorem jc_isinstance (K:PySem.W.Frag) (hg:Gl X "isinstance") (hm:X.mg "isinstance" = none) (ha:JA X (e::es) t) (hK:X.K=K:=by rfl) (he:starEach (e::es) X.env=(false,eval e X.env)::starEach es X.env:=by rfl) (hpl:(backTo pos (starEach es X.env)).any (·.1)=false:=by rfl):JE X (.Call (.Name "isinstance" p) (e::es) [] pos) (tCB (rIsi K) t):=⟨pe_callB (call_isiK K hK) hg hm bb_isinstance ha.h (by decide) (by decide) he hpl⟩
theorem jc_min (hg:Gl X "min") (hm:X.mg "min" = none) (ha:JA X (e::es) t) (hc:X.calm=true:=by rfl) (he:starEach (e::es) X.env=(false,eval e X.env)::starEach es X.env:=by rfl) (hpl:(backTo pos (starEach es X.env)).any (·.1)=false:=by rfl):JE X (.Call (.Name "min" p) (e::es) [] pos) (tCB (rMin) t):=⟨pe_callB (call_minK hc) hg hm bb_min ha.h (by decide) (by decide) he hpl⟩
theorem jc_max (hg:Gl X "max") (hm:X.mg "max" = none) (ha:JA X (e::es) t) (hc:X.calm=true:=by rfl) (he:starEach (e::es) X.env=(false,eval e X.env)::starEach es X.env:=by rfl) (hpl:(backTo pos (starEach es X.env)).any (·.1)=false:=by rfl):JE X (.Call (.Name "max" p) (e::es) [] pos) (tCB (rMax) t):=⟨pe_callB (call_maxK hc) hg hm bb_max ha.h (by decide) (by decide) he hpl⟩
theorem jc_tuple (K:PySem.W.Frag) (hg:Gl X "tuple") (hm:X.mg "tuple" = none) (ha:JA X (e::es) t) (hK:X.K=K:=by rfl) (he:starEach (e::es) X.env=(false,eval e X.env)::starEach es X.env:=by rfl) (hpl:(backTo pos (starEach es X.env)).any (·.1)=false:=by rfl):JE X (.Call (.Name "tuple" p) (e::es) [] pos) (tCB (rTuple K) t):=⟨pe_callTy (call_tupleK K hK) hg hm bb_tuple ha.h (by decide) (by decide) he hpl⟩
theorem jc_list (K:PySem.W.Frag) (hg:Gl X "list") (hm:X.mg "list" = none) (ha:JA X (e::es) t) (hK:X.K=K:=by rfl) (he:starEach (e::es) X.env=(false,eval e X.env)::starEach es X.env:=by rfl) (hpl:(backTo pos (starEach es X.env)).any (·.1)=false:=by rfl):JE X (.Call (.Name "list" p) (e::es) [] pos) (tCB (rList K) t):=⟨pe_callTy (call_listK K hK) hg hm bb_list ha.h (by decide) (by decide) he hpl⟩
theorem jc_int (hg:Gl X "int") (hm:X.mg "int" = none) (ha:JA X (e::es) t) (he:starEach (e::es) X.env=(false,eval e X.env)::starEach es X.env:=by rfl) (hpl:(backTo pos (starEach es X.env)).any (·.1)=false:=by rfl):JE X (.Call (.Name "int" p) (e::es) [] pos) (tCB (rInt) t):=⟨pe_callTy call_intK hg hm bb_int ha.h (by decide) (by decide) he hpl⟩
theorem jm_append (K:PySem.W.Frag) (ho:JE X o to) (ha:JA X (e::es) t) (hK:X.K=K:=by rfl) (hbase:attributeBase o "append" X.env (eval o X.env)=eval o X.env:=by rfl)
  (hfew:((backTo cpos (starEach (e::es) X.env)).all (fun x=>!x.1) && (backToKw cpos (keywordEach [] X.env)).all (fun x=>x.1.isSome) && decide ((e::es).length+([]:List Keyword).length+(if ([]:List Keyword).isEmpty then 0 else 1) < 30))=true:=by rfl)
  (hline:(apos.endLine == cpos.line)=true:=by rfl) (hs:starEach (e::es) X.env=(false,eval e X.env)::starEach es X.env:=by rfl) (hplain:(backTo cpos (starEach es X.env)).any (·.1)=false:=by rfl) :
  JE X (.Call (.Attribute o "append" apos) (e::es) [] cpos) (tBM K "list" rAppend to t):=⟨pe_bmK K PySem.F.plainAttrs_list PySem.F.slot_list_append PySem.F.type_list_append mt_append ho.h ha.h hK hbase hfew hline hs hplain⟩
theorem jm_extend (K:PySem.W.Frag) (ho:JE X o to) (ha:JA X (e::es) t) (hK:X.K=K:=by rfl) (hbase:attributeBase o "extend" X.env (eval o X.env)=eval o X.env:=by rfl)
  (hfew:((backTo cpos (starEach (e::es) X.env)).all (fun x=>!x.1) && (backToKw cpos (keywordEach [] X.env)).all (fun x=>x.1.isSome) && decide ((e::es).length+([]:List Keyword).length+(if ([]:List Keyword).isEmpty then 0 else 1) < 30))=true:=by rfl)
  (hline:(apos.endLine == cpos.line)=true:=by rfl) (hs:starEach (e::es) X.env=(false,eval e X.env)::starEach es X.env:=by rfl) (hplain:(backTo cpos (starEach es X.env)).any (·.1)=false:=by rfl) :
  JE X (.Call (.Attribute o "extend" apos) (e::es) [] cpos) (tBM K "list" rExtend to t):=⟨pe_bmK K PySem.F.plainAttrs_list PySem.F.slot_list_extend PySem.F.type_list_extend mt_extend ho.h ha.h hK hbase hfew hline hs hplain⟩
theorem jg_name {i:Nat} {x:Str} (hN:X.N.Nodup) (hi:X.N[i]?=some x) (hx:Loc X.env.scope x) (hf:X.fn x=true∨X.env.scope.names.lookup x=some .local:=by first | exact .inl rfl | exact .inr rfl | assumption):JG X (.Name x pos) (gName i):=⟨pg_name hN hi hx hf⟩
theorem jgs_nil:JGs X [] gNil:=⟨pgs_nil⟩
theorem jgs_cons {g:TG} {u:TGs} (h1:JG X e g) (h2:JGs X es u) (hs:(assignEach (e::es) X.env).map (·.2)=assign e X.env::(assignEach es X.env).map (·.2):=by rfl):JGs X (e::es) (gCons g u):=⟨pgs_cons h1.h h2.h hs⟩
theorem jg_tup (K:PySem.W.Frag) (n:Nat) {k:Nat} {u:TGs} (h:JGs X es u) (hc:X.calm=true:=by rfl) (hK:X.K=K:=by rfl) (hn:(assignEach es X.env).length=n:=by rfl) (hst:(assignEach es X.env).findIdx? (·.1)=none:=by rfl):JG X (.Tuple es k pos) (gTup K n u):=⟨pg_tupK K hc h.h hK hn hst⟩
theorem jg_sub {i:Expr} {ti:TE} (ho:JE X o to) (hi:JE X i ti)
  (ha:∀ v,assign (.Subscript o i pos) X.env v=(do
   let ov ← holding [v] (eval o X.env)
   let iv ← holding [v,ov] (eval i X.env)
   standAt pos
   holding [v,ov,iv] (setItem ov iv v)
   release [v,ov,iv] []):=by intro _; rfl):JG X (.Subscript o i pos) (gSub to ti rSetL):=⟨pg_sub ho.h hi.h set_list ha⟩
theorem ji_list (K:PySem.W.Frag) {tg l:Expr} {tl:TE} (hl:JE X l tl) (hK:X.K=K:=by rfl):JI X tg l (iList K tl):=⟨pi_listK K hl.h hK⟩
theorem ji_tup (K:PySem.W.Frag) {tg l:Expr} {tl:TE} (hl:JE X l tl) (hK:X.K=K:=by rfl):JI X tg l (iTup K tl):=⟨pi_tupK K hl.h hK⟩
theorem ji_zip (K:PySem.W.Frag) {kt:Nat} {tp:Pos} (hg:Gl X "zip") (hm:X.mg "zip" = none) (ha:JA X [a,b] t) (hK:X.K=K:=by rfl) (hs:starEach [a,b] X.env=[(false,eval a X.env),(false,eval b X.env)]:=by rfl) (hs2:starEach [b] X.env=[(false,eval b X.env)]:=by rfl) :
  JI X (.Tuple es kt tp) (.Call (.Name "zip" p) [a,b] [] pos) (iZip K t):=⟨pi_zipK K hg hm ha.h hK hs hs2⟩
theorem ji_range1 {tg:Expr} (hg:Gl X "range") (hm:X.mg "range" = none) (ha:JA X [a] t) (hs:starEach [a] X.env=[(false,eval a X.env)]:=by rfl):JI X tg (.Call (.Name "range" p) [a] [] pos) (iRng1 t):=⟨pi_range1 hg hm ha.h hs⟩
theorem ji_range2 {tg:Expr} (hg:Gl X "range") (hm:X.mg "range" = none) (ha:JA X [a,b] t) (hs:starEach [a,b] X.env=[(false,eval a X.env),(false,eval b X.env)]:=by rfl) (hs2:starEach [b] X.env=[(false,eval b X.env)]:=by rfl):JI X tg (.Call (.Name "range" p) [a,b] [] pos) (iRng2 t):=⟨pi_range2 hg hm ha.h hs hs2⟩
theorem jf_nil:JF X [] tTrue:=⟨pif_nil⟩
theorem jf_one (h:JT X c tA):JF X [c] tA:=⟨pif_one h.h⟩
theorem j_comp {tg iter elt:Expr} {ifs:List Expr} {scope:Scope} {N:List Str} {src:List (Option Nat)} {wi:TI} {g:TG} {tt:TT} (hi:JI X tg iter wi) (hcap:capOk scope X.env.scope=true) (hblk:blkOk N src X.N scope=true) (hsc:scOk scope=true)
  (hg:∀ cells C s H ex,JG (X.blk N scope cells C s H ex) tg g) (ht:∀ cells C s H ex,JF (X.blk N scope cells C s H ex) ifs tt) (he:∀ cells C s H ex,JE (X.blk N scope cells C s H ex) elt te)
  (hc:X.calm=true:=by rfl) (hs:∀ x,foldedSetIterable iter X.env x=pure x:=by intro _; rfl):JE X (.ListComp elt [⟨tg,iter,ifs,0⟩] scope pos) (tComp src wi g tt te) :=
 ⟨pe_comp hc hi.h hcap hblk hsc (fun _ _ _ _ _=>(hg _ _ _ _ _).h) (fun _ _ _ _ _=>(ht _ _ _ _ _).h) (fun _ _ _ _ _=>(he _ _ _ _ _).h) hs⟩
variable {st:Stmt} {sts:List Stmt} {u v:TS}
theorem jb_nil:JB X [] tNext:=⟨pss_nil⟩
theorem jb_cons (h1:JS X st u) (h2:JB X sts v):JB X (st::sts) (tSeq u v):=⟨pss_cons h1.h h2.h⟩
theorem jb_one (h1:JS X st u):JB X [st] u:=⟨pss_one h1.h⟩
theorem js_break:JS X (.Break pos) tBreak:=⟨ps_break⟩
theorem js_ret (he:JE X e te):JS X (.Return (some e) pos) (tRet te):=⟨ps_ret he.h⟩
theorem js_expr (he:JE X e te) (hs:swapsWith e none pos.line X.env=pure false:=by rfl):JS X (.Expr e pos) (tDrop te):=⟨ps_expr he.h hs⟩
theorem js_if {A B:List Stmt} (hc:JT X c tA) (ha:JB X A u) (hb:JB X B v):JS X (.If c A B pos) (tIfS tA u v):=⟨ps_if hc.h ha.h hb.h⟩
theorem js_while {B:List Stmt} (hc:JT X c tA) (hb:JB X B v) (hp:PassesOwn (model X.prog X.w) X.A X.env X.xe:=by exact PassesOwn.never):JS X (.While c B [] pos) (tWhile tA v):=⟨ps_while hp hc.h hb.h⟩
theorem js_for {tg iter:Expr} {B:List Stmt} {wi:TI} {g:TG} (hi:JI X tg iter wi) (hg:JG X tg g) (hb:JB X B v) (hp:PassesOwn (model X.prog X.w) X.A X.env X.xe:=by exact PassesOwn.never) (hc:X.calm=true:=by rfl)
  (hs:∀ x,foldedSetIterable iter X.env x=pure x:=by intro _; rfl):JS X (.For tg iter B [] pos) (tFor wi g v):=⟨ps_for hp hc hi.h hg.h hb.h hs⟩
theorem js_set {i:Nat} {x:Str} {pos':Pos} (hN:X.N.Nodup) (hi:X.N[i]?=some x) (hx:Loc X.env.scope x) (he:JE X e te) (hs:swapsWith e (some (.Name x pos')) pos.line X.env=pure false:=by rfl)
  (hf:X.fn x=true∨X.env.scope.names.lookup x=some .local:=by first | exact .inl rfl | exact .inr rfl | assumption):JS X (.Assign [.Name x pos'] e pos) (tAsg te (gName i)):=⟨ps_set hN hi hx he.h hs hf⟩
theorem js_setC {i:Nat} {y:Str} {py spos:Pos} {tg iter elt:Expr} {ifs:List Expr} {scope:Scope} {N:List Str} {src:List (Option Nat)} {wi:TI} {g:TG} {tt:TT}
  (hN:X.N.Nodup) (hy:X.N[i]?=some y) (hx:Loc X.env.scope y) (hi:JI X tg iter wi) (hcap:capOk scope X.env.scope=true) (hblk:blkOk N src X.N scope=true) (hsc:scOk scope=true)
  (hg:∀ cells C s H ex,JG (X.blk N scope cells C s H ex) tg g) (ht:∀ cells C s H ex,JF (X.blk N scope cells C s H ex) ifs tt) (hel:∀ cells C s H ex,JE (X.blk N scope cells C s H ex) elt te)
  (hc:X.calm=true:=by rfl) (hsw:swapsWith (.ListComp elt [⟨tg,iter,ifs,0⟩] scope pos) (some (.Name y py)) spos.line X.env=pure true:=by rfl) (hs:∀ x,foldedSetIterable iter X.env x=pure x:=by intro _; rfl)
  (hf:X.fn y=true∨X.env.scope.names.lookup y=some .local:=by first | exact .inl rfl | exact .inr rfl | assumption) :
  JS X (.Assign [.Name y py] (.ListComp elt [⟨tg,iter,ifs,0⟩] scope pos) spos) (tAsg (tComp src wi g tt te) (gName i)) :=
 ⟨ps_setC hN hy hx hc hi.h hcap hblk hsc (fun _ _ _ _ _=>(hg _ _ _ _ _).h) (fun _ _ _ _ _=>(ht _ _ _ _ _).h) (fun _ _ _ _ _=>(hel _ _ _ _ _).h) hsw hs hf⟩
theorem js_asg {tg:Expr} {g:TG} (he:JE X e te) (hg:JG X tg g) (hs:swapsWithSole [tg] e pos.line X.env=pure false:=by rfl) (hw:swappedStores [tg] e X.env=pure none:=by rfl)
  (h1:(assignEach [tg] X.env).map (·.2)=[assign tg X.env]:=by rfl):JS X (.Assign [tg] e pos) (tAsg te g):=⟨ps_asg he.h hg.h hs hw h1⟩
end
section
variable {P:Program} {w:World} {K:PySem.W.Frag} {mg:Str→Option Value} {base:Heap}
theorem FunAt.okJ {x:Str} {st:Stmt} {N ps:List Str} {k:Nat} {sp:Sp} (F:FunAt K mg x st ps) (S:FnScope N ps (defScope st)) (len:∀ vs H Q E,sp vs H Q E→vs.length=ps.length)
  (hbody:∀ (cdv:Value) (f:Addr) (A:Around) (outer:List Env) (s:Shared) (H:Hp) (vs:List V) (Q:VK) (E:XK),Room k (A.deeper (envOfC x (defScope st) s.heap.objs.size f cdv))→sp vs H Q E →
   ∃ t,JB (cxOf CX0 P w K mg base N x (defScope st) f cdv A outer s H E).nox (defBody st) t∧t { nx:=fun _ H'=>Q .non H',rt:=Q } (start N vs) H):Ok P w K mg base x (k+1) ps sp :=
 F.ok S len fun cdv f A outer s H vs Q E hr h=>let ⟨t,d,r⟩:=hbody cdv f A outer s H vs Q E hr h; ⟨t,d.h,r⟩
theorem Fun.okJ {x qual:Str} {st:Stmt} {f:Addr} {fd:FuncData} {N ps:List Str} {k:Nat} {sp:Sp} (F:Fun K x qual st f fd) (S:FnScope N ps (defScope st)) (len:∀ vs H Q E,sp vs H Q E→vs.length=ps.length)
  (hbody:∀ (cdv:Value) (A:Around) (outer:List Env) (s:Shared) (H:Hp) (vs:List V) (Q:VK) (E:XK),Room k (A.deeper (envOfC qual (defScope st) s.heap.objs.size f cdv))→sp vs H Q E →
   ∃ t,JB (cxOf CX0 P w K mg base N qual (defScope st) f cdv A outer s H E).nox (defBody st) t∧t { nx:=fun _ H'=>Q .non H',rt:=Q } (start N vs) H):FnOk P w K mg base CX0 (k+1) f fd ps sp :=
 F.ok S len fun cdv A outer s H vs Q E hr h=>let ⟨t,d,r⟩:=hbody cdv A outer s H vs Q E hr h; ⟨t,d.h,r⟩
end
def spLaw (K:PySem.W.Frag):Sp:=fun vs H Q _=>∃ (a:Addr) (ns:List Int),vs=[.ref a]∧SqL K H a (ns.map V.int)∧ns.length≤63∧∀ H',Q (.bl true) H'
theorem law_walk {l:PySem.W.OpenLaw} {q:Program} {loose:List Str} {XP:(Str→Option Value)→Heap→Prop} {YP:World→Heap→Prop} {d:DefRec} {K:Params→PySem.W.Frag} (k:Nat) (hn:l.most=some 63) (hdf:d.params.defaults=[]) (hr:Room k callerA)
  (hY:∀ (w:World) (h:Heap),YP w h→(K w.params).In h)
  (F:∀ (w:World) (mg:Str→Option Value) (fa:Addr) (h:Heap),(K w.params).In h→h.Ns mainGlobals mg→mg d.name=some (.ref fa) →
   ∃ fd:FuncData,(∀ (s:Shared) (u:Value),BindsTo s fd ⟨[u],[]⟩ [("_law_script",u)])∧∀ base:Heap,(K w.params).In base→base.Ns mainGlobals mg→FnOk l.prog w (K w.params) mg base CX0 k fa fd ["_law_script"] (spLaw (K w.params))) :
  PySem.W.WalkO q loose XP YP l.row.toRowW d [] (fun f vs=>PySem.call f vs) :=
 L2.walk_of (n:=63) (k:=k) (x := "_law_script") (CX:=fun _=>CX0) (sp:=fun w=>spLaw (K w.params)) hn (by decide) hdf hr hY F (fun _ _ a ns hl _ hS=>⟨a,ns,rfl,hS,hl,fun _=>rfl⟩) fun _ _ _ _ _ z=>z
def Its (H:Hp) (vs:List V) (rss:LLI):Prop:=vs.length=rss.length∧∀ (i:Nat) (v:V),vs[i]?=some v→∃ r,rss[i]?=some r∧IT H v r
theorem Its.same {H H':Hp} {vs:List V} {rss:LLI} (h:Its H vs rss) (s:Same H H'):Its H' vs rss:=⟨h.1,fun i v e=>let ⟨r,e1,e2⟩:=h.2 i v e; ⟨r,e1,e2.same s⟩⟩
theorem Its.nil {H:Hp}:Its H [] []:=⟨rfl,fun i v e=>by simp at e⟩
theorem Its.snoc {H:Hp} {vs:List V} {rss:LLI} {v:V} {r:List Int} (h:Its H vs rss) (hv:IT H v r):Its H (vs++[v]) (rss++[r]):=by
 refine ⟨by simp [h.1],fun i u e=>?_⟩
 by_cases hi:i < vs.length
 ·rw [List.getElem?_append_left hi] at e
  obtain ⟨q,e1,e2⟩:=h.2 i u e
  exact ⟨q,by rw [List.getElem?_append_left (by rw [← h.1]; exact hi)]; exact e1,e2⟩
 ·rw [List.getElem?_append_right (by omega)] at e
  have hj:i - vs.length=0:=by
   have:=(List.getElem?_eq_some_iff.mp e).1
   simp at this
   omega
  rw [hj] at e
  simp at e
  subst e
  refine ⟨r,?_,hv⟩
  rw [List.getElem?_append_right (by rw [← h.1]; omega),← h.1,hj]
  rfl
theorem Its.mem {H:Hp} {vs:List V} {rss:LLI} {v:V} {i:Nat} (h:Its H vs rss) (e:vs[i]?=some v):∃ r,r∈rss∧rss[i]?=some r∧IT H v r :=
 let ⟨r,e1,e2⟩:=h.2 i v e
 ⟨r,List.mem_of_getElem? e1,e1,e2⟩
theorem zip_intsM {K:PySem.W.Frag} {src:List (Option Nat)} {σ caps:St} {Q:VK} {k1 k2:Bool} {a b:Addr} {xs ys:List Int} {H:Hp} {te:TE} (f:Int→Int→V) (hl:xs.length≤1000)
  (hmono:∀ H',Same H H'→SqK k1 K H' a (xs.map V.int)∧SqK k2 K H' b (ys.map V.int))
  (hsrc:blkSt src σ=none::none::caps) (hte:∀ x y H1 Q1,x∈xs→y∈ys→Same H H1→Q1 (f x y) H1→te (some (.int x)::some (.int y)::caps) H1 Q1)
  (hd:∀ H1 p,Same H H1→H1 p=none→Q (.ref p) (upd H1 p (.lst (List.zipWith f xs ys)))) :
  CompW src (gTup K 2 (gCons (gName 0) (gCons (gName 1) gNil))) tTrue te σ Q (Itz K k1 k2 a b) H:=by
 have hz:(1000:Nat)≤sizeLine:=by rw [sizeLine_eq]; decide
 refine comp_zip (xs:=xs.map V.int) (zs:=ys.map V.int) (by rw [len_int]; omega) (fun i zs H'=>Same H H'∧zs=(List.zipWith f xs ys).take i) ⟨Same.refl H,by simp⟩ (fun i zs H' _ _ h=>⟨(hmono H' h.1).1,(hmono H' h.1).2,by rw [h.2]; exact List.length_take_le _ _⟩) ?_ ?_
 ·rintro i x z zs H' p hx hy ⟨s,rfl⟩ hp
  obtain ⟨x',hx',e1⟩:=get_int hx
  obtain ⟨z',hy',e2⟩:=get_int hy
  subst e1 e2
  clear hx hy
  have s':Same H (upd H' p (.tup [.int x',.int z'])):=s.upd hp
  refine ⟨p,[.int x',.int z'],rfl,SqT.of upd_same,rfl,.int x',[.int z'],rfl,.int z',[],rfl,rfl,?_⟩
  rw [hsrc]
  show Sub _ (some (.int x')::some (.int z')::caps)∧_
  refine ⟨⟨rfl,fun j v e=>?_⟩,?_⟩
  ·match j,e with
   | 0,e=>cases e
   | 1,e=>cases e
   | j+2,e=>exact e
  ·exact hte x' z' _ _ (List.mem_of_getElem? hx') (List.mem_of_getElem? hy') s' ⟨s',(take_zipWith f hx' hy').symm⟩
 ·rintro zs H' ⟨s,rfl⟩ p hp
  have e:(List.zipWith f xs ys).take (min (xs.map V.int).length (ys.map V.int).length)=List.zipWith f xs ys:=by
   rw [len_int,len_int,List.take_of_length_le]
   rw [List.length_zipWith]
   exact Nat.le_refl _
  rw [e]
  exact hd H' p s hp
theorem tup_its {K:PySem.W.Frag} {src:List (Option Nat)} {σ caps:St} {Q:VK} {a:Addr} {vs:List V} {rss:LLI} {H:Hp} {te:TE} (f:List Int→V) (hl:vs.length≤1000) (hmono:∀ H',Same H H'→SqT K H' a vs) (hI:Its H vs rss) (hsrc:blkSt src σ=none::caps)
  (hte:∀ v r H1 Q1,r∈rss→IT H1 v r→Same H H1→(∀ H2,Same H1 H2→Q1 (f r) H2)→te (some v::caps) H1 Q1) (hd:∀ H1 p,Same H H1→H1 p=none→Q (.ref p) (upd H1 p (.lst (rss.map f)))):CompW src (gName 0) tTrue te σ Q (Itt K a) H:=by
 have hz:(1000:Nat)≤sizeLine:=by rw [sizeLine_eq]; decide
 refine comp_tup (xs:=vs) (by omega) (fun i ys H'=>Same H H'∧ys=(rss.take i).map f) ⟨Same.refl H,by simp⟩ (fun i ys H' _ h=>⟨hmono H' h.1,by rw [h.2,List.length_map]; exact List.length_take_le _ _⟩) ?_ ?_
 ·rintro i x ys H' hx ⟨s,rfl⟩
  obtain ⟨r,hr,hr2,hr3⟩:=hI.mem hx
  show Sub _ ((blkSt src σ).set 0 (some x))∧_
  rw [hsrc]
  refine ⟨Sub.one,hte x r H' _ hr (hr3.same s) s fun H2 s2=>⟨s.trans s2,?_⟩⟩
  rw [List.take_add_one,hr2]
  simp
 ·rintro ys H' ⟨s,rfl⟩ p hp
  rw [hI.1,List.take_length]
  exact hd H' p s hp
theorem zip_rows {K:PySem.W.Frag} {src:List (Option Nat)} {σ caps:St} {Q:VK} {k1 k2:Bool} {a b:Addr} {xs:List Int} {us:List V} {rss:LLI} {H:Hp} {te:TE} (f:Int→List Int→V) (hl:xs.length≤1000)
  (hmono:∀ H',Same H H'→SqK k1 K H' a (xs.map V.int)∧SqK k2 K H' b us) (hI:Its H us rss)
  (hsrc:blkSt src σ=none::none::caps) (hte:∀ x v r H1 Q1,x∈xs→r∈rss→IT H1 v r→Same H H1→Q1 (f x r) H1→te (some (.int x)::some v::caps) H1 Q1)
  (hd:∀ H1 p,Same H H1→H1 p=none→Q (.ref p) (upd H1 p (.lst (List.zipWith f xs rss)))) :
  CompW src (gTup K 2 (gCons (gName 0) (gCons (gName 1) gNil))) tTrue te σ Q (Itz K k1 k2 a b) H:=by
 have hz:(1000:Nat)≤sizeLine:=by rw [sizeLine_eq]; decide
 refine comp_zip (xs:=xs.map V.int) (zs:=us) (by rw [len_int]; omega) (fun i zs H'=>Same H H'∧zs=(List.zipWith f xs rss).take i) ⟨Same.refl H,by simp⟩ (fun i zs H' _ _ h=>⟨(hmono H' h.1).1,(hmono H' h.1).2,by rw [h.2]; exact List.length_take_le _ _⟩) ?_ ?_
 ·rintro i x z zs H' p hx hy ⟨s,rfl⟩ hp
  obtain ⟨x',hx',e1⟩:=get_int hx
  subst e1
  obtain ⟨r,hr,hr2,hr3⟩:=hI.mem hy
  have s':Same H (upd H' p (.tup [.int x',z])):=s.upd hp
  refine ⟨p,[.int x',z],rfl,SqT.of upd_same,rfl,.int x',[z],rfl,z,[],rfl,rfl,?_⟩
  rw [hsrc]
  show Sub _ (some (.int x')::some z::caps)∧_
  refine ⟨⟨rfl,fun j v e=>?_⟩,?_⟩
  ·match j,e with
   | 0,e=>cases e
   | 1,e=>cases e
   | j+2,e=>exact e
  ·exact hte x' z r _ _ (List.mem_of_getElem? hx') hr (hr3.same s') s' ⟨s',(take_zipWith f hx' hr2).symm⟩
 ·rintro zs H' ⟨s,rfl⟩ p hp
  have e:(List.zipWith f xs rss).take (min (xs.map V.int).length us.length)=List.zipWith f xs rss:=by
   rw [len_int,hI.1,List.take_of_length_le]
   rw [List.length_zipWith]
   exact Nat.le_refl _
  rw [e]
  exact hd H' p s hp
theorem range_keep {src:List (Option Nat)} {σ caps:St} {Q:VK} {n:Nat} {H:Hp} {tt:TT} (t:Nat→Bool) (hn:n≤1000) (hsrc:blkSt src σ=none::caps) (htt:∀ (i:Nat) H1 (Q1:Bool→Hp→Prop),i < n→Same H H1→(∀ H2,Same H1 H2→Q1 (t i) H2)→tt (some (.int i)::caps) H1 Q1)
  (hd:∀ H1 p,Same H H1→H1 p=none→Q (.ref p) (upd H1 p (.lst ((((List.range n).filter t).map fun (i:Nat)=>(i:Int)).map V.int)))):CompW src (gName 0) tt (tVar 0) σ Q (Itr 0 n) H:=by
 refine range_by hn hsrc (fun i ys H'=>Same H H'∧ys=(((List.range i).filter t).map fun (i:Nat)=>(i:Int)).map V.int) ⟨Same.refl H,rfl⟩ (fun i ys H' h=>by rw [h.2,List.length_map,List.length_map]; exact Nat.le_trans (List.length_filter_le _ _) (by simp)) ?_ ?_
 ·rintro i ys H' hi ⟨s,rfl⟩
  refine htt i H' _ hi s fun H2 s2=>?_
  rw [List.range_succ,List.filter_append]
  cases e:t i with
  | true=>exact ⟨_,rfl,s.trans s2,by simp [e]⟩
  | false=>exact ⟨s.trans s2,by simp [e]⟩
 ·rintro ys H' ⟨s,rfl⟩ p hp
  exact hd H' p s hp
theorem js_never {X:Cx} {st:Stmt}:JS X st (fun _ _ _=>False):=⟨fun _ _ _ _ _ _ h=>h.elim⟩
end L2
namespace L2
open PySem PySem.Spec PyProof.Rows PySem.W
noncomputable def excO (p C:Addr):HO:=.ext fun h=>∃ o,h.get? p=some o∧o.cls=.ref C
theorem ObjOk.there {P:Program} {w:World} {H:Hp} {h:Heap} {a:Addr} {o:HO} (x:ObjOk P w H h a o):∃ u,h.get? a=some u:=by
 induction o with
 | lst xs=>obtain ⟨_,_,_,_,e⟩:=x; exact ⟨_,e⟩
 | tup xs=>obtain ⟨_,_,_,ob,e,_⟩:=x; exact ⟨_,e⟩
 | dK kvs=>obtain ⟨_,_,_,_,o,_,_,e,_⟩:=x; exact ⟨_,e⟩
 | dT kvs=>obtain ⟨_,_,_,_,o,_,_,e,_⟩:=x; exact ⟨_,e⟩
 | set S n=>obtain ⟨o,_,_,_,e,_⟩:=x; exact ⟨_,e⟩
 | ins C dx fs=>obtain ⟨_,_,_,e,_⟩:=x; exact ⟨_,e⟩
 | own y=>obtain ⟨_,e⟩:=x; exact ⟨_,e⟩
 | xd fs=>obtain ⟨_,⟨_,_,_,e,_⟩,_⟩:=x; exact ⟨_,e⟩
 | rng lo hi=>obtain ⟨_,_,_,e⟩:=x; exact ⟨_,e⟩
 | frz ob u ih=>obtain ⟨e,_⟩:=x; exact ⟨_,e⟩
 | tbl ps=>exact ⟨_,x⟩
 | met f y=>exact ⟨_,x⟩
 | ext φ=>exact x.2.1
def Cov (l:List Env) (H:Hp) (h0 h B:Heap):Prop:=∀ b o,h.get? b=some o→b ∉ frs l→(H b≠none∨∃ o',h0.get? b=some o')→B.get? b=some o
theorem fly_step {P:Program} {w:World} {l:List Env} {H H':Hp} {h0 h1 h2 B base:Heap} (hU:Un (frs l) [] H H' h0 h1) (hok:HOk P w H' h1) (cov:Cov l H' h0 h1 B) (st:B.StaysIn h2) (up:h1.UpToSlots h2) (ff:h1.FunFrames base l) (hf:∀ b∈frs l,H' b=none) :
  Un (frs l) [] H H' h0 h2∧HOk P w H' h2∧Cov l H' h0 h2 B:=by
 have tr:∀ b,H' b≠none→b ∉ frs l:=fun b n hb=>n (hf b hb)
 refine ⟨⟨?_,?_,hU.free,?_,hU.tups,hU.frzs,hU.tbls⟩,?_,?_⟩
 ·intro b o e n hb hx
  exact st b o (cov b o (hU.keep b o e n hb hx) hb (.inr ⟨o,e⟩))
 ·intro b o e n hb hx
  obtain ⟨sl,q⟩:=hU.slot b o e n hb hx
  obtain ⟨_,o2,e2,nf⟩:=ff.mem hb
  rw [q] at e2
  cases e2
  obtain ⟨sl2,q2⟩:=up b _ q nf
  exact ⟨sl2,q2⟩
 ·intro b o e hx
  obtain ⟨o1,q⟩:=hU.there b o e hx
  by_cases hb:b∈frs l
  ·obtain ⟨_,o2,e2,nf⟩:=ff.mem hb
   rw [q] at e2
   cases e2
   obtain ⟨sl2,q2⟩:=up b _ q nf
   exact ⟨_,q2⟩
  ·exact ⟨o1,st b o1 (cov b o1 q hb (.inr ⟨o,e⟩))⟩
 ·intro a o e
  refine (hok a o e).stay (fun b u hb q=>?_) (fun _ q=>q) fun _ _ q=>q
  have ht:H' b≠none:=by
   rcases hb with rfl | hb
   ·rw [e]; intro z; cases z
   ·rw [hb]; intro z; cases z
  exact st b u (cov b u q (tr b ht) (.inl ht))
 ·intro b o e hb ho
  have ex:∃ o1,h1.get? b=some o1:=by
   rcases ho with ht | ⟨o',q⟩
   ·cases eq:H' b with
    | none=>exact absurd eq ht
    | some u=>exact (hok b u eq).there
   ·exact hU.there b o' q (by simp)
  obtain ⟨o1,q1⟩:=ex
  have q2:=cov b o1 q1 hb ho
  have q3:=st b o1 q2
  rw [e] at q3
  cases q3
  exact q2
def CXE (P:Program) (w:World):CXT:=fun outer H s E e s' =>
 ∃ (p C:Addr) (H':Hp) (B:Heap) (a0:Value),e=.ref p∧s'.os=s.os∧AllBare s'.gens∧Un (frs outer) [] H H' s.heap s'.heap∧HOk P w H' s'.heap ∧
  H' p=none∧Heap.FlyingW B outer p (.ref C) a0 s'.heap∧Cov outer H' s.heap s'.heap B∧E (.ref C) none H'
def tRaise (C:Addr) (E:XK) (t:TA):TS:=fun _ σ H=>t σ H fun vs H1=>vs.length≤sizeLine∧E (.ref C) none H1
theorem ps_raise {P:Program} {w:World} {K:PySem.W.Frag} {mg:Str→Option Value} {base:Heap} {N:List Str} {qual:Str} {scope:Scope} {f:Addr} {cd:Value} {A:Around} {outer:List Env} {s0:Shared} {H0:Hp} {E:XK}
  {x:Str} {C:Addr} {bmB bmN:List Value} {B Bn newId nid initId inN:String} {e:Expr} {es:List Expr} {t:TA} {np cpos pos:Pos}
  (O:OwnCls x C bmB newId mg base) (Fn:ExcBaseFacts Bn newId inN bmN) (hBn:bmB.contains (.type Bn)=true) (FB:ExcBaseFacts B nid initId bmB)
  (hg:Gl (cxOf (CXE P w) P w K mg base N qual scope f cd A outer s0 H0 E) x)
  (ha:PA (cxOf (CXE P w) P w K mg base N qual scope f cd A outer s0 H0 E) (e::es) t) (hd:(x == ("__debug__" : Str))=false:=by decide)
  (he:starEach (e::es) (envOfC qual scope s0.heap.objs.size f cd)=(false,eval e (envOfC qual scope s0.heap.objs.size f cd))::starEach es (envOfC qual scope s0.heap.objs.size f cd):=by rfl)
  (hpl:(backTo cpos (starEach es (envOfC qual scope s0.heap.objs.size f cd))).any (·.1)=false:=by rfl) :
  PS (cxOf (CXE P w) P w K mg base N qual scope f cd A outer s0 H0 E) (.Raise (some (.Call (.Name x np) (e::es) [] cpos)) none pos) (tRaise C E t):=by
 intro pins s σ H D I h
 obtain ⟨tl,NC,nm,q,bs,hdct,sn,sub,ab,col,dd,k0,k1,k2,k3,k5,mN,hC,hN,hni,T⟩:=O.obj
 refine wpAny_Raise_call_subU (C:=C) (nm:=nm) (q:=q) (N:=NC) (bs:=bs) (bm:=tl) (hdct:=hdct) (sn:=sn) (sub:=sub) (ab:=ab) (col:=col) (dd:=dd) (k0:=k0) (k1:=k1) (k2:=k2) (k3:=k3) (k5:=k5)
  Fn hBn FB (mN:=mN) (T.hasType FB.hasBase) (I.ok.hd rfl) (by show (backTo cpos (starEach (e::es) (envOfC qual scope s0.heap.objs.size f cd))).any _=false; rw [he]; show (false || (backTo cpos (starEach es (envOfC qual scope s0.heap.objs.size f cd))).any (·.1))=false; rw [hpl]; rfl) hni (ld_glob I hg O.bound ⟨rfl,?_⟩ hd)
 have ha':=ha cpos pins s σ H _ I h
 have he':starEach (e::es) (cxOf (CXE P w) P w K mg base N qual scope f cd A outer s0 H0 E).env=_:=he
 rw [he'] at ha' ⊢
 refine Calls.evalArgs_plain (wpAny_mono ha' (fun us s2 ⟨vs,H1,I1,r,hl,q⟩=>⟨rfl,by rw [← r.length]; exact hl,I1.bk _ _ hC,hN.keeps I1.bk,T.keeps I1.bk,fun h' p hm=>?_⟩) fun _ _ z=>z)
 have hin:∀ env∈(envOfC qual scope s0.heap.objs.size f cd::outer),∀ b,env.frame=some b→b∈frs (envOfC qual scope s0.heap.objs.size f cd::outer):=fun env he b hb=>List.mem_filterMap.mpr ⟨env,he,hb⟩
 refine wpAny_leaves_madeW (base:=hideAll s2.heap (frs (envOfC qual scope s0.heap.objs.size f cd::outer))) (h:=s2.heap) I1.ok.frames rfl (fun b o q=>of_hideAll _ q) (funFrames_hide I1.stack hin) hm fun h2 t x1 x2 x3 x4=>?_
 have hsub:∀ b∈frs outer,b∈frs (envOfC qual scope s0.heap.objs.size f cd::outer):=fun b hb=>by
  obtain ⟨env,h1,h2⟩:=List.mem_filterMap.mp hb
  exact List.mem_filterMap.mpr ⟨env,List.mem_cons_of_mem _ h1,h2⟩
 have hnot:∀ b,b ∉ frs outer→b≠s0.heap.objs.size→b ∉ frs (envOfC qual scope s0.heap.objs.size f cd::outer):=fun b h1 h2 h3=>by
  obtain ⟨env,q1,q2⟩:=List.mem_filterMap.mp h3
  rcases List.mem_cons.mp q1 with rfl | q1
  ·exact h2 (Option.some.inj q2).symm
  ·exact h1 (List.mem_filterMap.mpr ⟨env,q1,q2⟩)
 have cov:Cov outer H1 s0.heap s2.heap (hideAll s2.heap (frs (envOfC qual scope s0.heap.objs.size f cd::outer))):=fun b o eb nb hb=>by
  refine hideAll_get _ eb (hnot b nb fun z=>?_)
  subst z
  rcases hb with hb | ⟨o',hb⟩
  ·exact hb I1.free
  ·exact absurd (Heap.lt_size hb) (Nat.lt_irrefl _)
 have hp:H1 p=none:=by
  cases eq:H1 p with
  | none=>rfl
  | some u =>
   obtain ⟨o,eo⟩:=(I1.hok p u eq).there
   rw [hm.new] at eo
   cases eo
 obtain ⟨U2,ok2,cov2⟩:=fly_step (P:=P) (w:=w) (l:=outer) (H:=H0) (H':=H1) (h0:=s0.heap) (h1:=s2.heap) (h2:=h2) I1.base I1.hok cov x1.1 ((Heap.UpToSlots.of_keeps hm.keeps).trans x4) I1.funs fun b hb=>I1.stkFree b (hsub b hb)
 exact ⟨p,C,H1,_,.ref t,rfl,I1.os,I1.bare,U2,ok2,hp,x1,cov2,q⟩
def XP (X:Cx) (pins:List (Addr×Obj)) (R:St→Addr→Hp→Prop) (e:Value) (s':Shared):Prop :=
 ∃ (σ1:St) (H1:Hp) (s1:Shared) (p C:Addr) (H':Hp) (B:Heap) (a0:Value),e=.ref p∧Inv X pins σ1 H1 s1∧s'.os=s1.os∧AllBare s'.gens∧Un (frs X.stack) [] H1 H' s1.heap s'.heap∧HOk X.prog X.w H' s'.heap ∧
  H' p=none∧Heap.FlyingW B X.stack p (.ref C) a0 s'.heap∧Cov X.stack H' s1.heap s'.heap B∧R σ1 C H'
abbrev TX:=Ends→(St→Addr→Hp→Prop)→St→Hp→Prop
def PSx (X:Cx) (sts:List Stmt) (t:TX):Prop :=
 ∀ (pins:List (Addr×Obj)) (s:Shared) (σ:St) (H:Hp) (D:Ends) (R:St→Addr→Hp→Prop),Inv X pins σ H s→t D R σ H→wpAny (model X.prog X.w) X.A (execs sts X.env) (SP X pins D) (XP X pins R) s
structure OkE (P:Program) (w:World) (K:PySem.W.Frag) (mg:Str→Option Value) (base:Heap) (x:Str) (k:Nat) (ps:List Str) (sp:Sp):Prop where
 ex:∃ f fd,mg x=some (.ref f)∧PySem.W.keepIn K (.ref f)=true∧Binds K fd ps []∧FnOk P w K mg base (CXE P w) k f fd ps sp
theorem FunAt.okE {P:Program} {w:World} {K:PySem.W.Frag} {mg:Str→Option Value} {base:Heap} {x:Str} {st:Stmt} {N ps:List Str} {k:Nat} {sp:Sp} (F:FunAt K mg x st ps) (S:FnScope N ps (defScope st)) (len:∀ vs H Q E,sp vs H Q E→vs.length=ps.length)
  (hbody:∀ (cdv:Value) (f:Addr) (A:Around) (outer:List Env) (s:Shared) (H:Hp) (vs:List V) (Q:VK) (E:XK),Room k (A.deeper (envOfC x (defScope st) s.heap.objs.size f cdv))→sp vs H Q E →
   ∃ t,JB (cxOf (CXE P w) P w K mg base N x (defScope st) f cdv A outer s H E) (defBody st) t∧t { nx:=fun _ H'=>Q .non H',rt:=Q } (start N vs) H):OkE P w K mg base x (k+1) ps sp:=by
 obtain ⟨f,fd,h1,h2,h3⟩:=F.ex
 refine ⟨f,fd,h1,h2.kp,h3,?_⟩
 obtain ⟨oc,od,kV,doc,pm,an,cdv,ct,osl,rfl,lk,hcd⟩:=h2.ex
 refine fn_of lk hcd S len fun A outer s H vs Q E hr hsp=>?_
 obtain ⟨t,h,q⟩:=hbody cdv f A outer s H vs Q E hr hsp
 exact ⟨t,h.h,q⟩
section
variable {M:Model} {A:Around} {E:Value→Shared→Prop}
structure ClsX (K:PySem.W.Frag) (C:Addr) (above:List Value):Prop where
 ex:∃ nm q N bs bm hdct sn sub ab col dd k0 k1 k2 k3 k5 newId,K.lookup C=some (excClassObj nm q C N bs bm hdct sn sub ab col dd k0 k1 k2 k3 k5 newId)∧bm.contains (.type "BaseException")=true∧∀ v∈above,bm.contains v=true
end
section
variable {X:Cx} {pins:List (Addr×Obj)} {σ:St} {H1 H':Hp} {s1 s':Shared} {p C:Addr} {B:Heap} {a0:Value} {h2:Heap}
theorem Inv.land (I1:Inv X pins σ H1 s1) (hos:s'.os=s1.os) (hg:AllBare s'.gens) (hU:Un (frs X.stack) [] H1 H' s1.heap s'.heap) (hok:HOk X.prog X.w H' s'.heap) (ff:s'.heap.FunFrames B X.stack) (cov:Cov X.stack H' s1.heap s'.heap B) (st:B.StaysIn h2) (up:s'.heap.UpToSlots h2) :
  Inv X pins σ H' { s' with heap:=h2 }:=by
 have hf:∀ b∈frs X.stack,H' b=none:=fun b hb=>by
  obtain ⟨_,o,ho,_⟩:=I1.stack.mem hb
  exact hU.free b o ho (I1.stkFree b hb) (by simp)
 obtain ⟨U2,ok2,_⟩:=fly_step hU hok cov st up ff hf
 exact I1.call' (ch:=[]) hos U2 ok2 hg (fun b z=>absurd z (by simp))
theorem Inv.landX (I1:Inv X pins σ H1 s1) (hos:s'.os=s1.os) (hg:AllBare s'.gens) (hU:Un (frs X.stack) [] H1 H' s1.heap s'.heap) (hok:HOk X.prog X.w H' s'.heap) (hp:H' p=none) (ff:s'.heap.FunFrames B X.stack) (cov:Cov X.stack H' s1.heap s'.heap B) (fl2:Heap.FlyingW B X.stack p (.ref C) a0 h2) (up:s'.heap.UpToSlots h2) :
  Inv X pins σ (upd H' p (excO p C)) { s' with heap:=h2 }:=by
 have hf:∀ b∈frs X.stack,H' b=none:=fun b hb=>by
  obtain ⟨_,o,ho,_⟩:=I1.stack.mem hb
  exact hU.free b o ho (I1.stkFree b hb) (by simp)
 obtain ⟨U2,ok2,cov2⟩:=fly_step hU hok cov fl2.1 up ff hf
 obtain ⟨oe,heo,hcl⟩:=fl2.there
 have hpf:p ∉ frs X.stack:=fun hb=>by
  obtain ⟨_,o,ho,nf⟩:=fl2.2.2.1.mem hb
  obtain ⟨oe',vs,_,_,_,he',_,hd',_⟩:=fl2.2.2.2
  rw [ho] at he'
  cases he'
  exact nf vs hd'
 have hn1:∀ o,s1.heap.get? p≠some o:=fun o e=>by
  have:=cov2 p oe heo hpf (.inr ⟨o,e⟩)
  rw [fl2.2.1] at this
  cases this
 have U3:Un (frs X.stack) [] H1 (upd H' p (excO p C)) s1.heap h2:=by
  refine ⟨U2.keep,U2.slot,fun b o e n hx=>?_,U2.there,fun b xs e=>?_,fun b o u e=>?_,fun b ps e=>?_⟩
  ·rw [upd_ne (by rintro rfl; exact hn1 o e)]
   exact U2.free b o e n hx
  ·have q:=U2.tups b xs e
   rw [upd_ne (by rintro rfl; rw [hp] at q; cases q)]
   exact q
  ·have q:=U2.frzs b o u e
   rw [upd_ne (by rintro rfl; rw [hp] at q; cases q)]
   exact q
  ·obtain ⟨more,q⟩:=U2.tbls b ps e
   exact ⟨more,by rw [upd_ne (by rintro rfl; rw [hp] at q; cases q)]; exact q⟩
 have ok3:HOk X.prog X.w (upd H' p (excO p C)) h2:=fun a o e=>by
  by_cases ha:a=p
  ·subst ha
   rw [upd_same] at e
   cases e
   exact ⟨⟨oe,heo,hcl⟩,⟨oe,heo⟩,fun g1 g2 ⟨o,q1,q2⟩ k=>⟨o,k o q1,q2⟩⟩
  ·rw [upd_ne ha] at e
   refine (ok2 a o e).stay (fun b u _ q=>q) (fun b q=>?_) fun b xs q=>?_
   ·rw [upd_ne (by rintro rfl; rw [hp] at q; cases q)]; exact q
   ·rw [upd_ne (by rintro rfl; rw [hp] at q; cases q)]; exact q
 exact I1.call' (ch:=[]) hos U3 ok3 hg (fun b z=>absurd z (by simp))
end
section
variable {X:Cx} {pins:List (Addr×Obj)} {σ:St} {H:Hp} {s:Shared}
noncomputable abbrev Cx.held (X:Cx) (p:Addr):Cx:={ X with A:=X.A.mark (some (.ref p)),calm:=false,xe:=fun _ _=>False }
theorem Inv.held (I:Inv X pins σ H s) (p:Addr):Inv (X.held p) pins σ H s :=
 ⟨⟨I.ok.mod,I.ok.kind,I.ok.glob,I.ok.blt,I.ok.above,I.ok.inj,I.ok.has,I.ok.cab,(fun z=>by cases z),I.ok.frames,I.ok.stk,I.ok.exf,I.ok.bs,I.ok.bsz,I.ok.noex,I.ok.exfs,I.ok.funs,I.ok.frf⟩,I.os,I.bare,I.base,I.loc,I.cell,I.free,I.freeC,I.pin,I.hok,I.len⟩
theorem Inv.unheld {p:Addr} (J:X.Ok) (I:Inv (X.held p) pins σ H s):Inv X pins σ H s :=
 ⟨J,I.os,I.bare,I.base,I.loc,I.cell,I.free,I.freeC,I.pin,I.hok,I.len⟩
end
structure JX (X:Cx) (sts:List Stmt) (t:TX):Prop where
 h:PSx X sts t
section
variable {X:Cx} {k:Nat} {ps:List Str} {sp:Sp} {x y:Str} {p pos cpos pos':Pos} {e:Expr} {es:List Expr} {t:TA} {i:Nat}
end
theorem js_raise {P:Program} {w:World} {K:PySem.W.Frag} {mg:Str→Option Value} {base:Heap} {N:List Str} {qual:Str} {scope:Scope} {f:Addr} {cd:Value} {A:Around} {outer:List Env} {s0:Shared} {H0:Hp} {E:XK}
  {x:Str} {C:Addr} {bmB bmN:List Value} {B Bn newId nid initId inN:String} {e:Expr} {es:List Expr} {t:TA} {np cpos pos:Pos}
  (O:OwnCls x C bmB newId mg base) (Fn:ExcBaseFacts Bn newId inN bmN) (hBn:bmB.contains (.type Bn)=true) (FB:ExcBaseFacts B nid initId bmB)
  (hg:Gl (cxOf (CXE P w) P w K mg base N qual scope f cd A outer s0 H0 E) x)
  (ha:JA (cxOf (CXE P w) P w K mg base N qual scope f cd A outer s0 H0 E) (e::es) t) (hd:(x == ("__debug__" : Str))=false:=by decide)
  (he:starEach (e::es) (envOfC qual scope s0.heap.objs.size f cd)=(false,eval e (envOfC qual scope s0.heap.objs.size f cd))::starEach es (envOfC qual scope s0.heap.objs.size f cd):=by rfl)
  (hpl:(backTo cpos (starEach es (envOfC qual scope s0.heap.objs.size f cd))).any (·.1)=false:=by rfl) :
  JS (cxOf (CXE P w) P w K mg base N qual scope f cd A outer s0 H0 E) (.Raise (some (.Call (.Name x np) (e::es) [] cpos)) none pos) (tRaise C E t):=⟨ps_raise O Fn hBn FB hg ha.h hd he hpl⟩
end L2
namespace L2
open PySem PySem.Spec PyProof.Rows PySem.W Builtin Builtin.ObjectAttr Builtin.Getset_descriptor
section
variable {K:PySem.W.Frag} {prog:Program} {w:World} {A:Around} {E:Value→Shared→Prop} {h:Heap} {g:Array GenState} {d:Drawn} {t:Nat} {os:OsState} {a:Addr} {o:Obj}
 {nm q:Str} {C N:Addr} {bs bm:List Value} {hdct:Bool} {sn:List Str} {sub:List Value} {ab:Bool} {col:Option Bool} {dd:Option Addr} {k0 k1 k2 k3 k5:Option Value} {newId:String}
end
section
variable {X:Cx} {es:List Expr} {e:Expr} {t:TA} {pos p:Pos}
end
end L2
namespace L2
open PySem PySem.Spec PyProof.Rows
theorem get_mapV {α:Type} {ca:α→V} {xs:List α} {i:Nat} {x:V} (h:(xs.map ca)[i]?=some x):∃ z,xs[i]?=some z∧x=ca z:=by
 rw [List.getElem?_map] at h
 cases e:xs[i]? with
 | none=>rw [e] at h; cases h
 | some z=>rw [e] at h; exact ⟨z,rfl,(Option.some.inj h).symm⟩
theorem zip_gen {α β:Type} {K:PySem.W.Frag} {src:List (Option Nat)} {σ caps:St} {Q:VK} {k1 k2:Bool} {a b:Addr} (ca:α→V) (cb:β→V) {xs:List α} {ys:List β} {H:Hp} {te:TE} (f:α→β→V) (hl:xs.length≤1000)
  (hmono:∀ H',Same H H'→SqK k1 K H' a (xs.map ca)∧SqK k2 K H' b (ys.map cb))
  (hsrc:blkSt src σ=none::none::caps) (hte:∀ x y H1 Q1,x∈xs→y∈ys→Same H H1→(∀ H2,Same H1 H2→Q1 (f x y) H2)→te (some (ca x)::some (cb y)::caps) H1 Q1)
  (hd:∀ H1 p,Same H H1→H1 p=none→Q (.ref p) (upd H1 p (.lst (List.zipWith f xs ys)))) :
  CompW src (gTup K 2 (gCons (gName 0) (gCons (gName 1) gNil))) tTrue te σ Q (Itz K k1 k2 a b) H:=by
 have hz:(1000:Nat)≤sizeLine:=by rw [sizeLine_eq]; decide
 refine comp_zip (xs:=xs.map ca) (zs:=ys.map cb) (by rw [List.length_map]; omega) (fun i zs H'=>Same H H'∧zs=(List.zipWith f xs ys).take i) ⟨Same.refl H,by simp⟩ (fun i zs H' _ _ h=>⟨(hmono H' h.1).1,(hmono H' h.1).2,by rw [h.2]; exact List.length_take_le _ _⟩) ?_ ?_
 ·rintro i x z zs H' p hx hy ⟨s,rfl⟩ hp
  obtain ⟨x',hx',e1⟩:=get_mapV hx
  obtain ⟨z',hy',e2⟩:=get_mapV hy
  subst e1 e2
  clear hx hy
  have s':Same H (upd H' p (.tup [ca x',cb z'])):=s.upd hp
  refine ⟨p,[ca x',cb z'],rfl,SqT.of upd_same,rfl,ca x',[cb z'],rfl,cb z',[],rfl,rfl,?_⟩
  rw [hsrc]
  show Sub _ (some (ca x')::some (cb z')::caps)∧_
  refine ⟨⟨rfl,fun j v e=>?_⟩,?_⟩
  ·match j,e with
   | 0,e=>cases e
   | 1,e=>cases e
   | j+2,e=>exact e
  ·exact hte x' z' _ _ (List.mem_of_getElem? hx') (List.mem_of_getElem? hy') s' fun H2 s2=>⟨s'.trans s2,(take_zipWith f hx' hy').symm⟩
 ·rintro zs H' ⟨s,rfl⟩ p hp
  have e:(List.zipWith f xs ys).take (min (xs.map ca).length (ys.map cb).length)=List.zipWith f xs ys:=by
   rw [List.length_map,List.length_map,List.take_of_length_le]
   rw [List.length_zipWith]
   exact Nat.le_refl _
  rw [e]
  exact hd H' p s hp
theorem tup_keepG {α:Type} {K:PySem.W.Frag} {src:List (Option Nat)} {σ caps:St} {Q:VK} {a:Addr} (ca:α→V) {xs:List α} {H:Hp} {tt:TT} (t:α→Bool) (hl:xs.length≤1000) (hmono:∀ H',Same H H'→SqT K H' a (xs.map ca)) (hsrc:blkSt src σ=none::caps)
  (htt:∀ x H1 (Q1:Bool→Hp→Prop),x∈xs→Same H H1→(∀ H2,Same H1 H2→Q1 (t x) H2)→tt (some (ca x)::caps) H1 Q1) (hd:∀ H1 p,Same H H1→H1 p=none→Q (.ref p) (upd H1 p (.lst ((xs.filter t).map ca)))):CompW src (gName 0) tt (tVar 0) σ Q (Itt K a) H:=by
 have hz:(1000:Nat)≤sizeLine:=by rw [sizeLine_eq]; decide
 refine comp_tup (xs:=xs.map ca) (by rw [List.length_map]; omega) (fun i ys H'=>Same H H'∧ys=((xs.take i).filter t).map ca) ⟨Same.refl H,by simp⟩ (fun i ys H' _ h=>⟨hmono H' h.1,by rw [h.2,List.length_map]; exact Nat.le_trans (List.length_filter_le _ _) (List.length_take_le _ _)⟩) ?_ ?_
 ·rintro i x ys H' hx ⟨s,rfl⟩
  obtain ⟨z,hz',rfl⟩:=get_mapV hx
  show Sub _ ((blkSt src σ).set 0 (some (ca z)))∧_
  rw [hsrc]
  refine ⟨Sub.one,htt z H' _ (List.mem_of_getElem? hz') s fun H2 s2=>?_⟩
  rw [List.take_add_one,hz']
  cases e:t z with
  | true=>exact ⟨_,rfl,s.trans s2,by simp [e]⟩
  | false=>exact ⟨s.trans s2,by simp [e]⟩
 ·rintro ys H' ⟨s,rfl⟩ p hp
  rw [List.length_map,List.take_length]
  exact hd H' p s hp
theorem all_its {rss qss:LLI}:((List.range (min rss.length qss.length)).all (fun j=>decide (rss.getD j []=qss.getD j [])) && rss.length == qss.length)=decide (rss=qss):=by
 rw [Bool.eq_iff_iff]
 simp only [Bool.and_eq_true,List.all_eq_true,List.mem_range,decide_eq_true_eq,beq_iff_eq]
 constructor
 ·rintro ⟨h1,h2⟩
  refine List.ext_getElem h2 fun i a b=>?_
  have:=h1 i (by omega)
  simpa [List.getD_eq_getElem?_getD,a,b] using this
 ·rintro rfl
  exact ⟨fun _ _=>rfl,rfl⟩
theorem EqV.its {K:PySem.W.Frag} {H:Hp} {k:Bool} {a b:Addr} {vs ws:List V} {rss qss:LLI} (ha:SqK k K H a vs) (hb:SqK k K H b ws) (h1:Its H vs rss) (h2:Its H ws qss):EqV K H 2 (.ref a) (.ref b) (decide (rss=qss)):=by
 have step:∀ j x y,vs[j]?=some x→ws[j]?=some y→EqV K H 1 x y (decide (rss.getD j []=qss.getD j [])):=fun j x y hx hy=>by
  obtain ⟨r,er,ra,rfl,hr⟩:=h1.2 j x hx
  obtain ⟨q,eq,qa,rfl,hq⟩:=h2.2 j y hy
  rw [List.getD_eq_getElem?_getD,List.getD_eq_getElem?_getD,er,eq]
  exact EqV.ints (k:=true) (SqT.of hr) (SqT.of hq)
 rw [← all_its,← h1.1,← h2.1]
 cases k
 ·exact EqV.lst (fun j=>decide (rss.getD j []=qss.getD j [])) ha hb step
 ·exact EqV.tup (fun j=>decide (rss.getD j []=qss.getD j [])) ha hb step
open _root_.HT
section
variable {prog:Program} {w:World} {A:Around} {E:Value→Shared→Prop} {s:Shared}
end
section
variable {X:Cx} {e:Expr} {te:TE} {lo hi:Option Expr} {tl th:TO} {pos p2:Pos}
end
end L2
namespace L2
open PySem PySem.Spec PyProof.Rows
theorem runs_det {M:Model} {Γ:PySem.Ctx} {p:Pos} {t:Sem PySem.Fin} {fs:List Frame} {s:Shared} {e:End} {s':Shared} (h:Runs M Γ p t fs s e s'):∀ {e2:End} {s2:Shared},Runs M Γ p t fs s e2 s2→e=e2∧s'=s2:=by
 induction h with
 | done=>intro e2 s2 h2; cases h2; exact ⟨rfl,rfl⟩
 | raise=>intro e2 s2 h2; cases h2; exact ⟨rfl,rfl⟩
 | again _ _ ih=>intro e2 s2 h2; cases h2 with | again _ q=>exact ih q
 | rule _ ih=>intro e2 s2 h2; cases h2 with | rule q=>exact ih q
 | «at» _ ih=>intro e2 s2 h2; cases h2 with | «at» q=>exact ih q
 | load e1 _ ih=>intro e2 s2 h2; cases h2 with | load e2 q=>rw [e1] at e2; cases e2; exact ih q
 | update _ _ ih=>intro e2 s2 h2; cases h2 with | update _ q=>exact ih q
 | loadIfAlive _ ih=>intro e2 s2 h2; cases h2 with | loadIfAlive q=>exact ih q
 | point _ ih=>intro e2 s2 h2; cases h2 with | point q=>exact ih q
 | alloc _ ih=>intro e2 s2 h2; cases h2 with | alloc q=>exact ih q
 | fresh _ ih=>intro e2 s2 h2; cases h2 with | fresh q=>exact ih q
 | ask _ ih=>intro e2 s2 h2; cases h2 with | ask q=>exact ih q
 | choose _ _ ih=>intro e2 s2 h2; cases h2 with | choose _ q=>exact ih q
 | os _ ih=>intro e2 s2 h2; cases h2 with | os q=>exact ih q
 | handled _ ih=>intro e2 s2 h2; cases h2 with | handled q=>exact ih q
 | genState e1 _ ih=>intro e2 s2 h2; cases h2 with | genState e2 q=>rw [e1] at e2; cases e2; exact ih q
 | stack _ ih=>intro e2 s2 h2; cases h2 with | stack q=>exact ih q
 | thread _ ih=>intro e2 s2 h2; cases h2 with | thread q=>exact ih q
 | newGen _ ih=>intro e2 s2 h2; cases h2 with | newGen q=>exact ih q
 | call _ _ ih1 ih2 =>
  intro e2 s2 h2
  cases h2 with
  | call q1 q2 =>
   obtain ⟨a,b⟩:=ih1 q1
   cases a; subst b
   exact ih2 q2
  | callSusp q1=>exact absurd (ih1 q1).1 (by intro z; cases z)
 | callSusp _ ih1 =>
  intro e2 s2 h2
  cases h2 with
  | call q1 q2=>exact absurd (ih1 q1).1 (by intro z; cases z)
  | callSusp q1 =>
   obtain ⟨a,b⟩:=ih1 q1
   cases a; subst b
   exact ⟨rfl,rfl⟩
 | yield=>intro e2 s2 h2; cases h2; exact ⟨rfl,rfl⟩
 | resumeFresh g1 _ _ _ ih1 ih2 =>
  intro e2 s2 h2
  cases h2 with
  | resumeFresh g2 q1 _ q2 =>
   rw [g1] at g2; cases g2
   obtain ⟨a,b⟩:=ih1 q1
   subst a b
   exact ih2 q2
  | resumeSuspended g2=>rw [g1] at g2; cases g2
  | resumeJustStarted g2 v=>exact absurd rfl v
  | resumeRunning g2=>rw [g1] at g2; cases g2
  | resumeFinished g2=>rw [g1] at g2; cases g2
 | resumeSuspended g1 _ _ _ ih1 ih2 =>
  intro e2 s2 h2
  cases h2 with
  | resumeFresh g2=>rw [g1] at g2; cases g2
  | resumeSuspended g2 q1 _ q2 =>
   rw [g1] at g2; cases g2
   obtain ⟨a,b⟩:=ih1 q1
   subst a b
   exact ih2 q2
  | resumeJustStarted g2 v=>rw [g1] at g2; cases g2
  | resumeThrowFresh g2=>rw [g1] at g2; cases g2
  | resumeRunning g2=>rw [g1] at g2; cases g2
  | resumeFinished g2=>rw [g1] at g2; cases g2
 | resumeJustStarted g1 v _ ih =>
  intro e2 s2 h2
  cases h2 with
  | resumeFresh g2=>exact absurd rfl v
  | resumeSuspended g2=>rw [g1] at g2; cases g2
  | resumeJustStarted g2 v2 q=>exact ih q
  | resumeRunning g2=>rw [g1] at g2; cases g2
  | resumeFinished g2=>rw [g1] at g2; cases g2
 | resumeThrowFresh g1 _ ih =>
  intro e2 s2 h2
  cases h2 with
  | resumeSuspended g2=>rw [g1] at g2; cases g2
  | resumeThrowFresh g2 q=>exact ih q
  | resumeRunning g2=>rw [g1] at g2; cases g2
  | resumeFinished g2=>rw [g1] at g2; cases g2
 | resumeRunning g1 _ ih =>
  intro e2 s2 h2
  cases h2 with
  | resumeFresh g2=>rw [g1] at g2; cases g2
  | resumeSuspended g2=>rw [g1] at g2; cases g2
  | resumeJustStarted g2 v=>rw [g1] at g2; cases g2
  | resumeThrowFresh g2=>rw [g1] at g2; cases g2
  | resumeRunning g2 q=>exact ih q
  | resumeFinished g2=>rw [g1] at g2; cases g2
 | resumeFinished g1 _ ih =>
  intro e2 s2 h2
  cases h2 with
  | resumeFresh g2=>rw [g1] at g2; cases g2
  | resumeSuspended g2=>rw [g1] at g2; cases g2
  | resumeJustStarted g2 v=>rw [g1] at g2; cases g2
  | resumeThrowFresh g2=>rw [g1] at g2; cases g2
  | resumeRunning g2=>rw [g1] at g2; cases g2
  | resumeFinished g2 q=>exact ih q
 | segRet _ _ ih1 ih2 =>
  intro e2 s2 h2
  cases h2 with
  | segRet q1 q2 =>
   obtain ⟨a,b⟩:=ih1 q1
   cases a; subst b
   exact ih2 q2
  | segSuspOut _ q1=>exact absurd (ih1 q1).1 (by intro z; cases z)
  | segSuspGen _ q1=>exact absurd (ih1 q1).1 (by intro z; cases z)
 | segGen _ _ ih1 ih2 =>
  intro e2 s2 h2
  cases h2 with
  | segGen q1 q2 =>
   obtain ⟨a,b⟩:=ih1 q1
   cases a; subst b
   exact ih2 q2
  | segSuspOut _ q1=>exact absurd (ih1 q1).1 (by intro z; cases z)
  | segSuspGen _ q1=>exact absurd (ih1 q1).1 (by intro z; cases z)
 | segSuspOut e1 _ ih1 =>
  intro e2 s2 h2
  cases h2 with
  | segRet q1 q2=>exact absurd (ih1 q1).1 (by intro z; cases z)
  | segGen q1 q2=>exact absurd (ih1 q1).1 (by intro z; cases z)
  | segSuspOut e2 q1 =>
   obtain ⟨a,b⟩:=ih1 q1
   cases a; subst b
   exact ⟨rfl,rfl⟩
  | segSuspGen e2 q1=>rw [e1] at e2; cases e2
 | segSuspGen e1 _ _ _ ih1 ih2 =>
  intro e2 s2 h2
  cases h2 with
  | segRet q1 q2=>exact absurd (ih1 q1).1 (by intro z; cases z)
  | segGen q1 q2=>exact absurd (ih1 q1).1 (by intro z; cases z)
  | segSuspOut e2 q1=>rw [e1] at e2; cases e2
  | segSuspGen e2 q1 _ q2 =>
   rw [e1] at e2; cases e2
   obtain ⟨a,b⟩:=ih1 q1
   cases a; subst b
   exact ih2 q2
theorem wpCode_and {M:Model} {Γ:PySem.Ctx} {R R':Result→Shared→Prop} {p:Pos} {s:Shared} (h:wpCode M Γ R p s) (h':wpCode M Γ R' p s):wpCode M Γ (fun r s'=>R r s'∧R' r s') p s:=by
 obtain ⟨r,s1,q1,q2⟩:=h
 obtain ⟨r',s1',q1',q2'⟩:=h'
 obtain ⟨a,b⟩:=runs_det q1 q1'
 cases a; subst b
 exact ⟨r,s1,q1,q2,q2'⟩
theorem wakes_det {M:Model} {Γ:PySem.Ctx} {p:Pos} {g:Nat} {r:Resume} {s:Shared} {a a':GenResult} {s1 s1':Shared} (h:Wakes M Γ p g r s a s1) (h':Wakes M Γ p g r s a' s1'):a=a'∧s1=s1':=by
 unfold Wakes at h h'
 split at h
 ·exact h.elim
 ·split at h
  ·obtain ⟨e,u,q1,q2,rfl,rfl⟩:=h
   simp_all only
   obtain ⟨e',u',q1',q2',rfl,rfl⟩:=h'
   obtain ⟨x,y⟩:=runs_det q1 q1'
   subst x y
   exact ⟨rfl,rfl⟩
  ·simp_all
  ·simp_all
 ·simp_all only
  obtain ⟨e,u,q1,q2,rfl,rfl⟩:=h
  obtain ⟨e',u',q1',q2',rfl,rfl⟩:=h'
  obtain ⟨x,y⟩:=runs_det q1 q1'
  subst x y
  exact ⟨rfl,rfl⟩
 ·simp_all
 ·simp_all
theorem wp_and {α:Type} {M:Model} {Γ:PySem.Ctx} (t:Sem α):∀ {Q Q':α→Pos→Shared→Prop} {E E':Value→Pos→Shared→Prop} {p:Pos} {s:Shared},Sem.wp M Γ t Q E p s→Sem.wp M Γ t Q' E' p s→Sem.wp M Γ t (fun a p s=>Q a p s∧Q' a p s) (fun a p s=>E a p s∧E' a p s) p s:=by
 induction t with
 | pure a=>intro Q Q' E E' p s h h'; exact ⟨h,h'⟩
 | raise e=>intro Q Q' E E' p s h h'; exact ⟨h,h'⟩
 | load a part k ih=>intro Q Q' E E' p s h h'; obtain ⟨o,e1,q⟩:=h; obtain ⟨o',e2,q'⟩:=h'; rw [e1] at e2; cases e2; exact ⟨o,e1,ih _ q q'⟩
 | update a part f k ih=>intro Q Q' E E' p s h h'; exact ⟨h.1,ih _ h.2 h'.2⟩
 | choose src n k ih=>intro Q Q' E E' p s h h'; exact ⟨h.1,ih _ h.2 h'.2⟩
 | call c hh g l k ih=>intro Q Q' E E' p s h h'; exact wpCode_mono (fun r s' q=>ih _ q.1 q.2) (wpCode_and h h')
 | genState g k ih=>intro Q Q' E E' p s h h'; obtain ⟨o,e1,q⟩:=h; obtain ⟨o',e2,q'⟩:=h'; rw [e1] at e2; cases e2; exact ⟨o,e1,ih _ q q'⟩
 | resume g r l k ih=>intro Q Q' E E' p s h h'; obtain ⟨a,s1,w1,q⟩:=h; obtain ⟨a',s1',w2,q'⟩:=h'; obtain ⟨x,y⟩:=wakes_det w1 w2; subst x y; exact ⟨a,s1,w1,ih _ q q'⟩
 | _=>intro Q Q' E E' p s h h'; first | exact (h:False).elim | (rename_i ih; exact ih _ h h')
theorem wpAny_both {α:Type} {M:Model} {A:Around} {t:Sem α} {Q Q':α→Shared→Prop} {E E':Value→Shared→Prop} {s:Shared} (h:wpAny M A t Q E s) (h':wpAny M A t Q' E' s):wpAny M A t (fun a s=>Q a s∧Q' a s) (fun a s=>E a s∧E' a s) s :=
 fun Γ p hg=>wp_and t (h Γ p hg) (h' Γ p hg)
def objsBut (h:Heap) (L:Addr):List (Addr×Obj):=(List.range h.objs.size).filterMap fun b=>if b=L then none else (h.get? b).map fun o=>(b,o)
theorem mem_objsBut {h:Heap} {L:Addr} {p:Addr×Obj}:p∈objsBut h L↔h.get? p.1=some p.2∧p.1≠L:=by
 unfold objsBut
 rw [List.mem_filterMap]
 constructor
 ·rintro ⟨b,hb,e⟩
  split at e
  ·cases e
  ·rename_i hL
   cases eo:h.get? b with
   | none=>rw [eo] at e; cases e
   | some o=>rw [eo] at e; cases e; exact ⟨eo,hL⟩
 ·rintro ⟨e,hL⟩
  exact ⟨p.1,List.mem_range.mpr (Heap.lt_size e),by rw [if_neg hL,e]; rfl⟩
theorem no_obj (b:Addr):({}:Heap).get? b=none:=by
 unfold Heap.get?
 simp
theorem fr_but {h:Heap} {L:Addr} {m:Str→Option Value} (hn:h.Ns L m):Fr {} L h m:=⟨hn,(fun b o e=>by rw [no_obj] at e; cases e),Nat.zero_le _⟩
theorem news_but (h:Heap) (L:Addr):News {} L h (objsBut h L):=fun p hp=>let ⟨h1,h2⟩:=mem_objsBut.mp hp; ⟨h1,h2,no_obj _⟩
theorem keep_but {h h':Heap} {L:Addr} (n:News {} L h' (objsBut h L)):∀ b o,b≠L→h.get? b=some o→h'.get? b=some o:=fun b o hb e=>(n (b,o) (mem_objsBut.mpr ⟨e,hb⟩)).1
theorem keeps_all {X:Cx} {pins:List (Addr×Obj)} {σ:St} {H:Hp} {s:Shared} {t:Sem Value} {P:Value→Prop} {Q:Value→Shared→Prop} (I:Inv X pins σ H s)
  (h:∀ (L:Addr) (m:Str→Option Value),s.heap.Ns L m→wpAny (model X.prog X.w) X.A t (fun v s'=>P v∧(∀ b o,b≠L→s.heap.get? b=some o→s'.heap.get? b=some o)∧∃ h' tk,s'={ s with heap:=h',toks:=tk }) X.xe s)
  (q:∀ v s',P v→Inv X pins σ H s'→Q v s'):wpAny (model X.prog X.w) X.A t Q X.xe s:=by
 have w1:=h mainGlobals X.mg (I.mod.glob.keeps I.bk)
 obtain ⟨mb,hb,_⟩:=I.mod.blt
 have w2:=h builtinsNs mb (hb.keeps I.bk)
 refine wpAny_mono (wpAny_both w1 w2) (fun v s' z=>?_) fun e s' z=>z.1
 obtain ⟨⟨hp,k1,h',tk,rfl⟩,_,k2,_⟩:=z
 refine q v _ hp (I.kept (t':=tk) fun b o e=>?_)
 by_cases hb:b=mainGlobals
 ·exact k2 b o (by rw [hb]; decide) e
 ·exact k1 b o hb e
def rMinL (K:PySem.W.Frag):RL:=fun xs H Q=>∃ (p:Addr) (ns:List Int),xs=[.ref p]∧SqL K H p (ns.map V.int)∧0 < ns.length∧∀ M,M∈ns→(∀ a∈ns,M≤a)→Q (.int M) H
section
variable {X:Cx}
theorem call_minL (K:PySem.W.Frag) (hc:X.calm=true) (hK:X.K=K:=by rfl):CallR X (.builtin "min") (rMinL K):=by
 subst hK
 intro pins s σ H xs us Q I rv h
 obtain ⟨p,ns,rfl,hs,hn,q⟩:=h
 obtain ⟨u,rfl,ru⟩:=rv.one
 cases ru
 obtain ⟨its,ri,sq,hz⟩:=I.list hs
 refine keeps_all (P:=fun v=>∃ M t,v=.int M t∧M∈ns∧∀ a∈ns,M≤a) I (fun L m hL=>?_) fun v s' ⟨M,t,e,h1,h2⟩ I'=>⟨.int M,H,I',⟨t,e⟩,q M h1 h2⟩
 exact min_list_N (I.ok.hd hc) (fr_but hL) (news_but _ L) sq.isList (intsAre_of ri) hn fun h' M t tk _ hn' h1 h2=>⟨⟨M,t,rfl,h1,h2⟩,keep_but hn',h',tk,rfl⟩
theorem jc_minL (K:PySem.W.Frag) {e:Expr} {t:TA} {p pos:Pos} (hg:Gl X "min") (hm:X.mg "min" = none) (ha:JA X [e] t) (hc:X.calm=true:=by rfl) (hK:X.K=K:=by rfl) (he:starEach [e] X.env=(false,eval e X.env)::starEach [] X.env:=by rfl) (hpl:(backTo pos (starEach [] X.env)).any (·.1)=false:=by rfl):JE X (.Call (.Name "min" p) [e] [] pos) (tCB (rMinL K) t):=⟨pe_callB (call_minL K hc hK) hg hm bb_min ha.h (by decide) (by decide) he hpl⟩
end
section
variable {X:Cx}
end
section
variable {prog:Program} {w:World} {A:Around} {E:Value→Shared→Prop} {s:Shared} {k:Bool}
theorem enum_item {e it l:Addr} {i:Nat} {items:Array Value} {x old:Value} {Q:Value→Shared→Prop} (he:IsEnum s.heap e it (i:Int) old) (hit:ItAt k s.heap it l i) (hl:SqAt k s.heap l items) (hx:items[i]?=some x) (ne:e≠it)
  (hQ:∀ (h':Heap) (t:Tok) (tk:Nat),IsEnumOut h' e it ((i:Int)+1) x s.heap.objs.size→ItAt k h' it l (i+1)→h'.get? s.heap.objs.size=some { cls:=.type "tuple",data:=.seq #[.int i t,x] }→h'.objs.size=s.heap.objs.size+1 →
   (∀ b o,b≠e→b≠it→s.heap.get? b=some o→h'.get? b=some o)→Q (.ref s.heap.objs.size) { s with heap:=h',toks:=tk }) :
  wpAny (model prog w) A (Builtin.«enumerate.__next__» ⟨[.ref e],[]⟩) (fun fin s'=>∃ v,fin=.done (.ret v)∧Q v s') E s:=by
 show wpAny _ _ (field (.ref e) 2 >>= _) _ _ _
 refine wpAny_bind (wpAny_field he rfl (x:=.ref it) rfl ?_)
 refine wpAny_bind (src_item hit hl hx fun h1 it1 hs1=>?_)
 have he1:IsEnum h1 e it (i:Int) old:=hs1.extBut _ _ ne he
 show wpAny _ _ (field (.ref e) 3 >>= _) _ _ _
 refine wpAny_bind (wpAny_field he1 rfl (x:=rawInt i) rfl ?_)
 show wpAny _ _ (field (.ref e) 4 >>= _) _ _ _
 refine wpAny_bind (wpAny_field he1 rfl (x:=.none) rfl ?_)
 show wpAny _ _ (if (Value.none == Value.none)=true then _ else _) _ _ _
 rw [if_pos (by decide)]
 refine wpAny_bind (wpAny_mkInt ?_)
 refine wpAny_bind (wpAny_setField_rec (s:={ s with heap:=h1,toks:=s.toks+1 }) he1 (by simp) fun h2 he2 hs2=>?_)
 replace he2:IsEnum h2 e it ((i:Int)+1) old:=he2
 refine wpAny_bind (wpAny_setField_rec (s:={ s with heap:=h2,toks:=s.toks+1 }) he2 (by simp) fun h3 he3 hs3=>?_)
 replace he3:IsEnum h3 e it ((i:Int)+1) old:=he3
 refine wpAny_bind (wpAny_newTuple ?_)
 have hsz:h3.objs.size=s.heap.objs.size:=by rw [hs3.1,hs2.1,hs1.1]
 have hlt:e < h3.objs.size:=Heap.lt_size he3
 have he4:IsEnum (h3.push { cls:=.type "tuple",data:=.seq #[.int i s.toks,x] }) e it ((i:Int)+1) old:=Heap.get?_push_of_some _ he3
 refine wpAny_bind ?_
 unfold Builtin.SmallTypes.ownedTupleIsFree
 refine wpAny_bind (wpAny_field he4 rfl (x:=.none) rfl (wpAny_pure ?_))
 show wpAny _ _ (if (Value.none == Value.none)=true then _ else _) _ _ _
 rw [if_pos (by decide)]
 refine wpAny_bind (wpAny_rule ?_)
 refine wpAny_bind (wpAny_field he4 rfl (x:=old) rfl ?_)
 refine wpAny_bind (wpAny_setField_rec he4 (by simp) fun h5 he5 hs5=>?_)
 replace he5:IsEnum h5 e it ((i:Int)+1) x:=he5
 refine wpAny_bind ?_
 unfold Builtin.SmallTypes.ownedTupleHandOut
 refine wpAny_bind (wpAny_setField_rec he5 (by simp) fun h6 he6 hs6=>?_)
 replace he6:IsEnumOut h6 e it ((i:Int)+1) x h3.objs.size:=he6
 refine wpAny_setField_rec he6 (by simp) fun h7 he7 hs7=>?_
 replace he7:IsEnumOut h7 e it ((i:Int)+1) x h3.objs.size:=he7
 refine wpAny_bind (wpAny_letGo ?_)
 have up:∀ c o,c≠e→h3.get? c=some o→h7.get? c=some o:=fun c o c1 q=>hs7.extBut _ _ c1 (hs6.extBut _ _ c1 (hs5.extBut _ _ c1 (Heap.get?_push_of_some _ q)))
 have hT:h7.get? h3.objs.size=some { cls:=.type "tuple",data:=.seq #[.int i s.toks,x] }:=hs7.extBut _ _ (Nat.ne_of_gt hlt) (hs6.extBut _ _ (Nat.ne_of_gt hlt) (hs5.extBut _ _ (Nat.ne_of_gt hlt) (Heap.get?_push_size _ rfl)))
 have hz:h7.objs.size=h3.objs.size+1:=by rw [hs7.1,hs6.1,hs5.1,Heap.size_push]
 refine wpAny_pure ⟨_,rfl,?_⟩
 show Q (.ref h3.objs.size) _
 rw [hsz] at hT hz he7 ⊢
 refine hQ h7 s.toks (s.toks+1) he7 ((((it1.extBut hs2.extBut ne.symm).extBut hs3.extBut ne.symm)).at fun o q=>up it o ne.symm q) hT hz fun b o b1 b2 q=>up b o b1 (hs3.extBut _ _ b1 (hs2.extBut _ _ b1 (hs1.extBut _ _ b2 q)))
theorem enum_end {e it l:Addr} {i:Nat} {items:Array Value} {old:Value} {Q:Fin→Shared→Prop} (hh:A.handled=none) (he:IsEnum s.heap e it (i:Int) old) (hit:ItAt k s.heap it l i) (hl:SqAt k s.heap l items) (hx:items[i]?=none)
  (hE:∀ h' x,(∀ c o,c≠e→c≠it→s.heap.get? c=some o→h'.get? c=some o)→(∃ o,h'.get? x=some o∧o.cls=.type "StopIteration")→E (.ref x) { s with heap:=h' }) :
  wpAny (model prog w) A (Builtin.«enumerate.__next__» ⟨[.ref e],[]⟩) Q E s:=by
 show wpAny _ _ (field (.ref e) 2 >>= _) _ _ _
 refine wpAny_bind (wpAny_field he rfl (x:=.ref it) rfl ?_)
 exact wpAny_bind (src_end hh hit hl hx fun h1 x hs1 hx1=>hE h1 x (fun c o _ c2 q=>hs1 _ _ c2 q) hx1)
theorem wp_ite {α:Type} {M:Model} {A:Around} {c:Bool} {t u:Sem α} {Q:α→Shared→Prop} {E:Value→Shared→Prop} {s:Shared} (h1:wpAny M A t Q E s) (h2:wpAny M A u Q E s):wpAny M A (if c=true then t else u) Q E s:=by
 cases c
 ·exact h2
 ·exact h1
theorem enum_new (l:Addr) (xs:Array Value) :
  Meets (Builtin.«enumerate.__new__» ⟨[.type "enumerate",.ref l],[]⟩) (fun _ R s=>SqAt k s.heap l xs ∧
   R (.ok (.ret (.ref (s.heap.push (itObj k l)).objs.size))) { s with heap:=(s.heap.push (itObj k l)).push { cls:=.type "enumerate",data:=.fields #[.none,.bool false,.ref s.heap.objs.size,rawInt 0,.none,.none] } }) :=
 .of_wp fun prog w A R s h=>by
  obtain ⟨hp,g,d,tk,os⟩:=s; obtain ⟨hl1,h⟩:=h
  have hsub:=sub_enumerate
  have hL1:SqAt k (Shared.heap ⟨hp,g,d,tk,os⟩) l xs:=hl1
  wp_walk using src_iter hL1
  intro Γ p hg
  change wpAny _ _ (pure (_:Bool)) _ _ _
  refine wpAny_pure ?_
  refine wp_ite ?_ ?_
  ·wp_walk using src_iter hL1
   exact ⟨_,rfl,h⟩
  ·wp_walk using src_iter hL1
   exact ⟨_,rfl,h⟩
theorem enum_call {l:Addr} {xs:Array Value} {Q:Value→Shared→Prop} (hl1:SqAt k s.heap l xs)
  (h:∀ h',IsEnum h' (s.heap.objs.size+1) s.heap.objs.size 0 .none→ItAt k h' s.heap.objs.size l 0→h'.objs.size=s.heap.objs.size+2→(∀ c o,s.heap.get? c=some o→h'.get? c=some o)→Q (.ref (s.heap.objs.size+1)) { s with heap:=h' }) :
  wpAny (model prog w) A (call (.type "enumerate") [.ref l]) Q E s:=by
 refine callType_new F.called_enumerate (by decide) (F.typeCall_enumerate_1 _) (F.newCall_enumerate_1 _) (fun obj=>F.args_object_init_2 obj _) F.entry_enumerate_new
  (enum_new (k:=k) l xs) ⟨hl1,?_⟩
 have z1:(s.heap.push (itObj k l)).objs.size=s.heap.objs.size+1:=Heap.size_push ..
 have g2:((s.heap.push (itObj k l)).push { cls:=.type "enumerate",data:=.fields #[.none,.bool false,.ref s.heap.objs.size,rawInt 0,.none,.none] }).get? (s.heap.push (itObj k l)).objs.size=some _:=Heap.get?_push_size _ rfl
 have g1:((s.heap.push (itObj k l)).push { cls:=.type "enumerate",data:=.fields #[.none,.bool false,.ref s.heap.objs.size,rawInt 0,.none,.none] }).get? s.heap.objs.size=some (itObj k l):=Heap.get?_push_of_some _ (Heap.get?_push_size _ rfl)
 show _∧_
 rw [z1] at g2
 rw [z1]
 refine ⟨⟨_,g2,rfl⟩,h _ g2 ?_ (by rw [Heap.size_push,z1]) fun c o x=>Heap.get?_push_of_some _ (Heap.get?_push_of_some _ x)⟩
 cases k <;> exact ⟨_,g1,rfl,rfl⟩
end
def Ite (K:PySem.W.Frag) (k:Bool) (a:Addr):It :=
 ⟨fun i H=>∃ xs x,SqK k K H a xs∧xs[i]?=some x,
  fun i H v H'=>∃ p x,v=.ref p∧H p=none∧H'=upd H p (.tup [.int i,x])∧∀ xs,SqK k K H a xs→xs[i]?=some x,
  fun i H=>∃ xs,SqK k K H a xs∧xs.length≤i⟩
structure ETurn (k:Bool) (e it a:Addr) (i:Nat) (h:Heap):Prop where
 en:∃ old,IsEnum h e it (i:Int) old
 t1:ItAt k h it a i
theorem turn_enum {P:Program} {w:World} {K:PySem.W.Frag} {es:List Expr} {kt:Nat} {tp:Pos} {k:Bool} {a e it:Addr} (ne:e≠it) :
  Turn P w K (.Tuple es kt tp) (Ite K k a) [e,it] e (fun i h=>ETurn k e it a i h) where
 mem:=by simp
 obj:=fun i h st c hc=>by
  simp only [List.mem_cons,List.not_mem_nil,or_false] at hc
  rcases hc with rfl | rfl
  ·obtain ⟨old,q⟩:=st.en
   exact ⟨_,q,fun v z=>by cases z⟩
  ·obtain ⟨o,e,d⟩:=st.t1.get
   exact ⟨o,e,fun v z=>by rw [d] at z; cases z⟩
 keep:=fun i h h' st k=>⟨let ⟨old,q⟩:=st.en; ⟨old,k e (by simp) _ q⟩,st.t1.at fun o q=>k it (by simp) o q⟩
 item:=by
  intro X hP hw hK hc i pins s σ H E I hf st hg
  subst hP hw hK
  obtain ⟨xs,x,hx1,hx⟩:=hg
  obtain ⟨us,ru,pu,zu⟩:=I.sqk hx1
  obtain ⟨u,hu,rux⟩:=ru.get hx
  obtain ⟨old,hen⟩:=st.en
  have hT:s.TypeIs (.ref e) "enumerate" := ⟨_,hen,rfl⟩
  unfold pyNext
  refine wpAny_bind (wpAny_attempt (wpAny_callSpecial?_slot (name:=Str.ofString "__next__") hT F.slot_enumerate_next
   (wpAny_call_entry F.slot_enumerate_next hT F.entry_enumerate_next
    (enum_item hen st.t1 pu (x:=u) (by simpa using hu) ne fun h' t tk a1 a2 a3 a4 a5=>wpAny_pure ?_) (F.args_enumerate_next_1 _))))
  refine ⟨_,rfl,?_⟩
  refine wpAny_letOwnedTupleGo_enum (s:={ s with heap:=h',toks:=tk }) a1 fun h2 he2 hs2=>?_
  have nes:∀ c∈[e,it],c≠s.heap.objs.size:=fun c hc q=>by
   have:∃ o,s.heap.get? c=some o:=by
    simp only [List.mem_cons,List.not_mem_nil,or_false] at hc
    rcases hc with rfl | rfl
    ·exact ⟨_,hen⟩
    ·obtain ⟨o,e,d⟩:=st.t1.get; exact ⟨o,e⟩
   obtain ⟨o,z⟩:=this
   exact absurd (Heap.lt_size z) (by rw [q]; exact Nat.lt_irrefl _)
  have hfree:H s.heap.objs.size=none:=I.hok.fresh (Nat.le_refl _)
  have pr2:=hs2.extBut _ _ (nes e (by simp)).symm a3
  have kk:∀ c o,c ∉ [e,it]→s.heap.get? c=some o→h2.get? c=some o:=fun c o hc q=>by
   simp only [List.mem_cons,List.not_mem_nil,or_false,not_or] at hc
   exact hs2.extBut _ _ hc.1 (a5 c o hc.1 hc.2 q)
  have I2:Inv X pins σ (upd H s.heap.objs.size (.tup [.int i,x])) { s with heap:=h2 } :=
   I.turnedT (ch:=[e,it]) hf rfl kk ⟨by show 2≤sizeLine; decide,[.int i t,u],.cons ⟨t,rfl⟩ (.cons rux .nil),⟨_,pr2,rfl,0,rfl⟩⟩
  have I3:=I2.tok tk
  refine ⟨.ref s.heap.objs.size,_,I3,rfl,⟨_,x,rfl,hfree,rfl,fun zs hz=>?_⟩,⟨⟨_,he2⟩,a2.extBut hs2.extBut ne.symm⟩,fun c hc=>?_⟩
  ·rw [I.sqk_inj hz hx1]; exact hx
  ·rw [upd_ne (nes c hc)]; exact (hf c hc).1
 done:=by
  intro X hP hw hK hc i pins s σ H E I hf st hg
  subst hP hw hK
  obtain ⟨xs,hx1,hend⟩:=hg
  obtain ⟨us,ru,pu,zu⟩:=I.sqk hx1
  have l1:=ru.length
  obtain ⟨old,hen⟩:=st.en
  have hT:s.TypeIs (.ref e) "enumerate" := ⟨_,hen,rfl⟩
  unfold pyNext
  refine wpAny_bind (wpAny_attempt (wpAny_callSpecial?_slot (name:=Str.ofString "__next__") hT F.slot_enumerate_next
   (wpAny_call_entry F.slot_enumerate_next hT F.entry_enumerate_next (enum_end (I.ok.hd hc) hen st.t1 pu (by simp; omega) fun h' x hk hx=>?_) (F.args_enumerate_next_1 _))))
  obtain ⟨o,ho,hc⟩:=hx
  refine wpAny_bind (wpAny_isInstance (T := "StopIteration") (b:=true) ⟨o,ho,hc⟩ isSubtype_stop ?_)
  refine wpAny_pure ⟨rfl,I.turnedL (ch:=[e,it]) hf fun c o hc q=>?_⟩
  simp only [List.mem_cons,List.not_mem_nil,or_false,not_or] at hc
  exact hk c o hc.1 hc.2 q
 self:=fun A i s Q E st h=>let ⟨_,q⟩:=st.en; wpAny_pyIter_enum q h
def iEnum (K:PySem.W.Frag) (ta:TA):TI:=fun σ H R=>ta σ H fun vs H1=>∃ k a,vs=[.ref a]∧(∃ xs,SqK k K H1 a xs)∧R (Ite K k a) H1
section
variable {X:Cx}
theorem pi_enum {es:List Expr} {kt:Nat} {tp:Pos} {a:Expr} {ta:TA} {p pos:Pos} (hg:Gl X "enumerate") (hm:X.mg "enumerate" = none) (ha:PA X [a] ta) (hbz:bootBuiltins "enumerate" = some (.type "enumerate"))
  (hs:starEach [a] X.env=[(false,eval a X.env)]:=by rfl) :
  PI X (.Tuple es kt tp) (.Call (.Name "enumerate" p) [a] [] pos) (iEnum X.K ta):=by
 intro pins s σ H R I h
 refine Call_ (ld_blt I hg hm hbz (PyProof.Rows.callWith_type1 (thn (ha pos pins s σ H _ I h) fun us s1 ⟨vs,H1,I1,r1,q1⟩=>?_) (by rw [hs]; rfl) (by rfl)))
 obtain ⟨k,l1,e,⟨xs,hx⟩,q⟩:=q1
 subst e
 cases r1 with
 | cons r rr =>
  cases rr
  cases r
  obtain ⟨us,ru,pu,zu⟩:=I1.sqk hx
  refine enum_call pu fun h' z1 z2 z3 z4=>?_
  refine wpAny_pyIter_enum (s:={ s1 with heap:=h' }) z1 ?_
  refine ⟨s1.heap.objs.size+1,[s1.heap.objs.size+1,s1.heap.objs.size],_,_,H1,rfl,I1.kept (t':=s1.toks) z4,turn_enum (nne (by omega)),
   ⟨⟨_,z1⟩,z2⟩,fun c hc=>?_,q⟩
  have hle:s1.heap.objs.size≤c:=by
   simp only [List.mem_cons,List.not_mem_nil,or_false] at hc
   rcases hc with rfl | rfl
   ·exact Nat.le_add_right _ _
   ·exact Nat.le_refl _
  exact I1.fpOk hle (I1.hok.fresh hle)
end
theorem bb_enumerate:bootBuiltins "enumerate" = some (.type "enumerate"):=by kernel_rfl
section
variable {X:Cx}
theorem ji_enum (K:PySem.W.Frag) {es:List Expr} {kt:Nat} {tp:Pos} {a:Expr} {t:TA} {p pos:Pos} (hg:Gl X "enumerate") (hm:X.mg "enumerate" = none) (ha:JA X [a] t) (hK:X.K=K:=by rfl) (hs:starEach [a] X.env=[(false,eval a X.env)]:=by rfl) :
  JI X (.Tuple es kt tp) (.Call (.Name "enumerate" p) [a] [] pos) (iEnum K t):=by subst hK; exact ⟨pi_enum hg hm ha.h bb_enumerate hs⟩
end
section
variable {M:Model} {A:Around} {E:Value→Shared→Prop}
theorem excMatches_self {nm q:Str} {C N:Addr} {bs bm:List Value} {hdct:Bool} {sn:List Str} {sub:List Value} {ab:Bool} {col:Option Bool} {dd:Option Addr} {k0 k1 k2 k3 k5:Option Value} {newId:String}
  {h:Heap} {g:Array GenState} {d:Drawn} {t:Nat} {os:OsState} {e:Addr} {oe:Obj} {Q:Bool→Shared→Prop}
  (hC:h.get? C=some (excClassObj nm q C N bs bm hdct sn sub ab col dd k0 k1 k2 k3 k5 newId)) (he:h.get? e=some oe) (hcls:oe.cls=.ref C)
  (hbase:bm.contains (.type "BaseException")=true) (hq:Q true ⟨h,g,d,t,os⟩):wpAny M A (excMatches (.ref e) (.ref C)) Q E ⟨h,g,d,t,os⟩:=by
 have hcB:(Value.ref C::bm).contains (.type "BaseException")=true:=by rw [List.contains_cons,hbase,Bool.or_true]
 have hcC:(Value.ref C::bm).contains (.ref C)=true:=by rw [List.contains_cons]; simp
 have f:=tc_notTuple
 unfold excMatches
 repeat (first | (with_reducible refine wpAny_loadPart_at he ?_; rw [hcls]) | with_reducible refine wpAny_loadPart_at hC ?_ | (with_reducible refine wpAny_isSubtype_exc hC ?_; first | rw [hcB] | rw [hcC]) | wp_step)
 exact hq
end
def tTryNo (K:PySem.W.Frag) (D:Addr) (tx:TX) (ts:TS):TS:=fun De σ H=>tx De (fun σ1 C H'=>C=D∧∀ p,H' p=none→ts De σ1 (upd H' p (excO p C))) σ H
theorem ps_tryNo {X:Cx} {body:List Stmt} {tx:TX} {ts:TS} {cx:Str} {np hpos pos:Pos} {b0:Stmt} {suite:List Stmt} {D:Addr} (hst:X.stack=X.env::X.outer) (hfr:X.env.frame=some X.env.locals) (hx:PSx X body tx)
  (hg:Gl X cx) (hm:X.mg cx=some (.ref D)) (hD:ClsX X.K D [])
  (hsu:∀ p,PSs (X.held p) (b0::suite) ts) (hd:(cx == ("__debug__" : Str))=false:=by decide) :
  PS X (.Try body [.ExceptHandler (some (.Name cx np)) none (b0::suite) hpos] [] [] pos) (tTryNo X.K D tx ts):=by
 intro pins s σ H De I h
 refine wpAny_Try_except (wpAny_mono (hx pins s σ H De _ I h) (fun f s1 q=>?_) fun e s' q=>?_)
 ·cases f with
  | next=>exact wpAny_execs_nil q
  | brk=>exact q
  | cont=>exact q
  | ret v=>exact q
 ·obtain ⟨σ1,H1,s1,p,C,H',B,a0,rfl,I1,hos,hbare,hU,hok,hp,fl,cov,hC,k⟩:=q
  subst hC
  have ff:=fl.2.2.1
  have fl':=fl
  rw [hst] at fl'
  refine wpAny_looks_onW (L:=X.env.locals) (by rw [← hst]; exact I1.ok.frames) hfr fl' fun h4 held4 up4=>?_
  refine wpAny_landsW held4 fun h5 fl5 up5=>?_
  rw [← hst] at fl5
  have up5:=up4.trans up5
  have I5:Inv X pins σ1 H' { s' with heap:=h5 }:=I1.land hos hbare hU hok ff cov fl5.1 up5
  refine wpAny_handleBy_cons (codeAny_handlers_test ?_) (by intro q; cases q)
  refine ld_glob (X:=X.held p) (I5.held p) hg hm ?_ hd
  obtain ⟨oe,hoe,hcl⟩:=fl5.there
  obtain ⟨nm',q',NN',bs',bm',hdct',sn',sub',ab',col',dd',j0,j1,j2,j3,j5,newId',lkD,hbD,_⟩:=hD.ex
  refine excMatches_self (I5.kIn _ _ lkD) hoe hcl hbD ?_
  refine codeAny_handlers_suite ?_
  refine lands_againW fl5 fun h6 fl6 up6=>?_
  have I6:Inv X pins σ1 (upd H' p (excO p C)) { s' with heap:=h6 }:=I1.landX hos hbare hU hok hp ff cov fl6 (up5.trans up6)
  refine wpAny_mono (hsu p pins _ _ _ De (I6.held p) (k p hp)) (fun f s8 q8=>?_) fun _ _ z=>False.elim z
  cases f with
  | next=>obtain ⟨σ2,H2,I8,q8⟩:=q8; exact ⟨σ2,H2,I8.unheld I.ok,q8⟩
  | brk=>obtain ⟨σ2,H2,I8,q8⟩:=q8; exact ⟨σ2,H2,I8.unheld I.ok,q8⟩
  | cont=>obtain ⟨σ2,H2,I8,q8⟩:=q8; exact ⟨σ2,H2,I8.unheld I.ok,q8⟩
  | ret v=>obtain ⟨v',σ2,H2,I8,rv,q8⟩:=q8; exact ⟨v',σ2,H2,I8.unheld I.ok,rv,q8⟩
section
variable {X:Cx} {k:Nat} {ps:List Str} {sp:Sp} {x:Str} {p pos cpos:Pos} {e:Expr} {es:List Expr} {t:TA}
theorem js_tryNo (K:PySem.W.Frag) {body:List Stmt} {tx:TX} {ts:TS} {cx:Str} {np hpos pos:Pos} {b0:Stmt} {suite:List Stmt} {D:Addr} (hx:JX X body tx) (hg:Gl X cx) (hm:X.mg cx=some (.ref D)) (hD:ClsX K D [])
  (hsu:∀ p,JB (X.held p) (b0::suite) ts) (hK:X.K=K:=by rfl) (hst:X.stack=X.env::X.outer:=by rfl) (hfr:X.env.frame=some X.env.locals:=by rfl) (hd:(cx == ("__debug__" : Str))=false:=by decide) :
  JS X (.Try body [.ExceptHandler (some (.Name cx np)) none (b0::suite) hpos] [] [] pos) (tTryNo K D tx ts):=by
 subst hK
 exact ⟨ps_tryNo hst hfr hx.h hg hm hD (fun p=>(hsu p).h) hd⟩
end
section
variable (P:Program) (w:World)
end
section
variable {P:Program} {w:World} {H H':Hp} {h h':Heap} {a:Addr} {o:HO}
end
section
variable {P:Program} {w:World} {H:Hp} {h h':Heap} {x e:Addr} {o':HO}
end
section
variable {fs fs' ex ex':List Addr} {H H1 H2:Hp} {h h1 h2 h':Heap} {a x e:Addr} {o:HO}
end
section
variable {X:Cx} {pins:List (Addr×Obj)} {σ:List (Option V)} {H H':Hp} {s:Shared} {h':Heap}
end
section
variable {X:Cx}
variable {a b:Expr} {ta tb:TE} {pos:Pos}
variable {tA tB':TT} {rest:List Expr}
end
section
variable {X:Cx} {pins:List (Addr×Obj)} {σ:St} {H:Hp} {s:Shared} {a:Addr} {xs ys:List V}
end
section
variable {X:Cx} {pins:List (Addr×Obj)} {σ:St} {H:Hp} {s:Shared} {E:Value→Shared→Prop}
end
section
variable {X:Cx} {st:Stmt} {rest:List Stmt} {t u:TS} {e:Expr} {te:TE} {pos:Pos}
end
section
variable {X:Cx} {pos:Pos}
end
section
variable {X:Cx} {tg:Expr}
end
section
variable {X:Cx} {a b c:Expr} {ta tb tc:TE} {pos:Pos}
end
section
variable {prog:Program} {w:World} {A:Around} {E:Value→Shared→Prop} {s:Shared} {K:PySem.W.Frag} {x dx C f:Addr} {mA:Str→Option Value} {name:Str} {v:Value}
end
section
variable {P:Program} {w:World} {H H':Hp} {h h':Heap} {a C dx:Addr} {fs fs':List (Str×V)}
end
section
variable {X:Cx} {pins:List (Addr×Obj)} {σ:St} {H:Hp} {s:Shared} {a C dx:Addr} {fs:List (Str×V)} {f:Str} {v:V} {A:Around} {E:Value→Shared→Prop}
end
section
variable {X:Cx} {o e value:Expr} {f:Str} {pos pos' tpos:Pos} {ta tv:TE}
end
section
variable {X:Cx} {pins:List (Addr×Obj)} {σ:St} {H:Hp} {s:Shared} {A:Around} {E:Value→Shared→Prop} {Q:Value→Shared→Prop} {c:Value} {b:Bool}
end
section
variable {X:Cx} {e:Expr} {es:List Expr} {te:TE} {t:TA} {pos:Pos}
end
section
variable {X:Cx} {pins:List (Addr×Obj)} {σ:St} {H:Hp} {s s':Shared}
end
section
variable {X:Cx} {CX:CXT} {k:Nat} {f C:Addr} {fd:FuncData} {ps:List Str} {sp:Sp} {dvs:List V} {ds:List Value} {E:XK} {x m:Str} {p pos apos:Pos} {e o:Expr} {es:List Expr} {ta:TE} {t:TA}
end
section
variable {X:Cx} {CX:CXT} {k:Nat} {f C:Addr} {fd:FuncData} {ps ks:List Str} {sp:Sp} {E:XK} {x m:Str} {p pos apos kpos:Pos} {e o:Expr} {es:List Expr} {kws:List Keyword} {te ta:TE} {t tk:TA} {nm:Option Str}
variable {g:List Value→List Value→List Value} {gV:List V→List V→List V}
end
section
variable {X:Cx} {x:Str} {p pos:Pos} {e:Expr} {es:List Expr} {t:TA} {id T:String} {r:List V→Hp→VK→Prop}
end
section
variable {κ:Type} [DecidableEq κ]
noncomputable def valV (kvs:List (κ×V)) (k:κ):Option V:=(kvs.find? fun kv=>decide (kv.1=k)).map (·.2)
noncomputable def putK (kvs:List (κ×V)) (k:κ) (v:V):List (κ×V) :=
 if (kvs.any fun kv=>decide (kv.1=k))=true then kvs.map (fun kv=>if kv.1=k then (kv.1,v) else kv) else kvs++[(k,v)]
theorem valV_pos {p:κ×V} {r:List (κ×V)} {k:κ} (e:p.1=k):valV (p::r) k=some p.2:=by simp [valV,List.find?_cons,e]
theorem valV_neg {p:κ×V} {r:List (κ×V)} {k:κ} (e:¬ p.1=k):valV (p::r) k=valV r k:=by simp [valV,List.find?_cons,e]
theorem valV_any (k:κ):∀ kvs:List (κ×V),(kvs.any fun kv=>decide (kv.1=k))=(valV kvs k).isSome
 | []=>rfl
 | p::r=>by
  rw [List.any_cons]
  by_cases e:p.1=k
  ·simp only [valV_pos e,decide_eq_true e,Bool.true_or,Option.isSome_some]
  ·rw [valV_neg e,decide_eq_false e,Bool.false_or]; exact valV_any k r
theorem length_putK (kvs:List (κ×V)) (k:κ) (v:V):(putK kvs k v).length≤kvs.length+1:=by
 unfold putK
 split
 ·rw [List.length_map]; omega
 ·rw [List.length_append,List.length_cons,List.length_nil]; omega
theorem putK_new {kvs:List (κ×V)} {k:κ} (v:V) (h:valV kvs k=none):putK kvs k v=kvs++[(k,v)]:=by
 unfold putK
 rw [valV_any,h]
 exact if_neg (by decide)
theorem RelO.isSome_eq {o:Option V} {u:Option Value} (r:RelO o u):o.isSome=u.isSome:=by
 cases o with
 | none=>cases u with
  | none=>rfl
  | some _=>exact (show False from r).elim
 | some _=>cases u with
  | none=>exact (show False from r).elim
  | some _=>rfl
theorem KV.val {kvs:List (κ×V)} {vs:List (κ×Value)} (r:KV kvs vs) (k:κ):RelO (valV kvs k) (valueAt vs k):=by
 unfold KV at r
 induction r with
 | nil=>exact True.intro
 | @cons p q ps qs h t ih =>
  obtain ⟨h1,h2⟩:=h
  by_cases e:p.1=k
  ·have e':q.1=k:=h1.symm.trans e
   have b:valueAt (q::qs) k=some q.2:=by simp [valueAt,List.find?_cons,e']
   rw [valV_pos e,b]; exact h2
  ·have e':¬ q.1=k:=fun z=>e (h1.trans z)
   have b:valueAt (q::qs) k=valueAt qs k:=by simp [valueAt,List.find?_cons,e']
   rw [valV_neg e,b]; exact ih
theorem KV.any {kvs:List (κ×V)} {vs:List (κ×Value)} (r:KV kvs vs) (k:κ):(kvs.any fun kv=>decide (kv.1=k))=vs.any fun kv=>decide (kv.1=k):=by
 unfold KV at r
 induction r with
 | nil=>rfl
 | cons h t ih=>rw [List.any_cons,List.any_cons,ih,h.1]
theorem KV.repl {kvs:List (κ×V)} {vs:List (κ×Value)} (r:KV kvs vs) (k:κ) {y:V} {u:Value} (ry:RelV y u) :
  KV (kvs.map fun kv=>if kv.1=k then (kv.1,y) else kv) (vs.map fun kv=>if kv.1=k then (kv.1,u) else kv):=by
 unfold KV at r ⊢
 induction r with
 | nil=>exact .nil
 | @cons p q ps qs h t ih =>
  rw [List.map_cons,List.map_cons]
  refine .cons ?_ ih
  obtain ⟨h1,h2⟩:=h
  by_cases e:p.1=k
  ·rw [if_pos e,if_pos (h1.symm.trans e)]; exact ⟨h1,ry⟩
  ·rw [if_neg e,if_neg (fun z=>e (h1.trans z))]; exact ⟨h1,h2⟩
theorem KV.put {kvs:List (κ×V)} {vs:List (κ×Value)} (r:KV kvs vs) (k:κ) {y:V} {u:Value} (ry:RelV y u):KV (putK kvs k y) (stored vs k u):=by
 unfold putK stored
 rw [r.any k]
 by_cases e:(vs.any fun kv=>decide (kv.1=k))=true
 ·rw [if_pos e,if_pos e]; exact r.repl k ry
 ·rw [if_neg e,if_neg e]; exact Paired.snoc r ⟨rfl,ry⟩
theorem KV.length {kvs:List (κ×V)} {vs:List (κ×Value)} (r:KV kvs vs):kvs.length=vs.length:=Paired.length r
end
theorem kV_is {P:Program} {w:World} {k:Key} {u:Value} (r:RelV (kV k) u):(mixKind P w).is k u=true:=by
 cases k with
 | inl i=>obtain ⟨t,e⟩:=(show ∃ t,u=Value.int i t from r); subst e; exact mixKind_int P w i t
 | inr x=>obtain ⟨t,e⟩:=(show ∃ t,u=Value.str x t from r); subst e; exact mixKind_str P w x t
theorem items_are {P:Program} {w:World}:∀ {ks:List Key} {us:List Value},Vals (ks.map kV) us→ItemsAre (mixKind P w) ks us
 | [],_,r=>by rw [List.map_nil] at r; cases r; exact .nil
 | k::ks,_,r=>by
  rw [List.map_cons] at r
  cases r with
  | cons h t=>exact .cons (kV_is h) (items_are t)
abbrev KT (H:Hp):List (List Key×V)→List (List Key×Addr×Value)→Prop:=Paired fun p q=>p.1=q.1∧H q.2.1=some (.tup (p.1.map kV))∧RelV p.2 q.2.2
theorem KT.val {H:Hp} {kvs:List (List Key×V)} {xs:List (List Key×Addr×Value)} (r:KT H kvs xs) (k:List Key):RelO (valV kvs k) ((atKey xs k).map (·.2)):=by
 induction r with
 | nil=>exact True.intro
 | @cons p q ps qs h t ih =>
  obtain ⟨h1,_,h2⟩:=h
  by_cases e:p.1=k
  ·have e':q.1=k:=h1.symm.trans e
   have b:atKey (q::qs) k=some q.2:=by simp [atKey,List.find?_cons,e']
   rw [valV_pos e,b]; exact h2
  ·have e':¬ q.1=k:=fun z=>e (h1.trans z)
   have b:atKey (q::qs) k=atKey qs k:=by simp [atKey,List.find?_cons,e']
   rw [valV_neg e,b]; exact ih
theorem KT.repl {H:Hp} {kvs:List (List Key×V)} {xs:List (List Key×Addr×Value)} (r:KT H kvs xs) (k:List Key) {y:V} {u:Value} (ry:RelV y u) :
  KT H (kvs.map fun kv=>if kv.1=k then (kv.1,y) else kv) (xs.map (putAt k u)):=by
 induction r with
 | nil=>exact .nil
 | @cons p q ps qs h t ih =>
  rw [List.map_cons,List.map_cons]
  refine .cons ?_ ih
  obtain ⟨h1,h2,h3⟩:=h
  unfold putAt
  by_cases e:p.1=k
  ·rw [if_pos e,if_pos (h1.symm.trans e)]; exact ⟨h1,h2,ry⟩
  ·rw [if_neg e,if_neg (fun z=>e (h1.trans z))]; exact ⟨h1,h2,h3⟩
theorem KT.put {H:Hp} {kvs:List (List Key×V)} {xs:List (List Key×Addr×Value)} (r:KT H kvs xs) (k:List Key) {b:Addr} {y:V} {u:Value} (hb:H b=some (.tup (k.map kV))) (ry:RelV y u) :
  KT H (putK kvs k y) (storedH xs k b u):=by
 have e:(kvs.any fun kv=>decide (kv.1=k))=(atKey xs k).isSome:=by
  rw [valV_any,(r.val k).isSome_eq,Option.isSome_map]
 unfold putK storedH
 rw [e]
 by_cases q:(atKey xs k).isSome=true
 ·rw [if_pos q,if_pos q]; exact r.repl k ry
 ·rw [if_neg q,if_neg q]; exact Paired.snoc r ⟨rfl,hb,ry⟩
theorem KT.keeps {H H':Hp} {kvs:List (List Key×V)} {xs:List (List Key×Addr×Value)} (r:KT H kvs xs) (ht:∀ b ys,H b=some (.tup ys)→H' b=some (.tup ys)):KT H' kvs xs :=
 Paired.mapP r fun _ _ z=>⟨z.1,ht _ _ z.2.1,z.2.2⟩
section
variable {P:Program} {w:World} {H:Hp} {h:Heap} {a:Addr}
theorem rd_of {u:HO} (ok:HOk P w H h) (e:Rd H a u):ObjOk P w H h a u:=e.ok ok
theorem dk_rd {kvs:List (Key×V)} (ok:HOk P w H h) (e:Rd H a (.dK kvs)):kvs.length≤sizeLine∧(a == sysModules)=false∧∃ vs,KV kvs vs∧h.DictOf (mixKind P w) a vs :=
 show ObjOk P w H h a (.dK kvs) from rd_of ok e
theorem dk_of {kvs:List (Key×V)} (ok:HOk P w H h) (e:H a=some (.dK kvs)):kvs.length≤sizeLine∧(a == sysModules)=false∧∃ vs,KV kvs vs∧h.DictOf (mixKind P w) a vs:=dk_rd ok (.inl e)
theorem key_of {ks:List Key} (ok:HOk P w H h) (e:H a=some (.tup (ks.map kV))):(tupleKind (mixKind P w)).is h ks a:=by
 obtain ⟨_,its,r,o,h1,h2,n,h3⟩:=(show ObjOk P w H h a (.tup (ks.map kV)) from ok a _ e)
 exact ⟨o,its.toArray,n,h1,h2,h3,by simpa using items_are r⟩
theorem dt_rd {kvs:List (List Key×V)} (ok:HOk P w H h) (e:Rd H a (.dT kvs)):kvs.length≤sizeLine∧(a == sysModules)=false ∧
  ∃ xs,KT H kvs xs∧h.DictOfH (tupleKind (mixKind P w)) a xs:=by
 obtain ⟨z,y,xs,r,o,es,ep,h1,h2,h3,h4,h5⟩:=(show ObjOk P w H h a (.dT kvs) from rd_of ok e)
 refine ⟨z,y,xs,r,o,es,ep,h1,h2,h3,h4,fun x hx=>?_,h5⟩
 have all:∀ {l:List (List Key×V)} {m:List (List Key×Addr×Value)},KT H l m→∀ x∈m,(tupleKind (mixKind P w)).is h x.1 x.2.1:=by
  intro l m q
  induction q with
  | nil=>intro x hx; exact nomatch hx
  | @cons p q ps qs hq t ih =>
   intro x hx
   rcases List.mem_cons.mp hx with e | hx
   ·subst e
    exact key_of ok (by rw [← hq.1]; exact hq.2.1)
   ·exact ih x hx
 exact all r x hx
theorem dt_of {kvs:List (List Key×V)} (ok:HOk P w H h) (e:H a=some (.dT kvs)):kvs.length≤sizeLine∧(a == sysModules)=false ∧
  ∃ xs,KT H kvs xs∧h.DictOfH (tupleKind (mixKind P w)) a xs:=dt_rd ok (.inl e)
end
def DGet (H:Hp) (a:Addr) (y:V) (r:Option V):Prop :=
 (∃ kvs k,Rd H a (.dK kvs)∧y=kV k∧r=valV kvs k)∨∃ kvs k b,Rd H a (.dT kvs)∧y=.ref b∧H b=some (.tup (k.map kV))∧r=valV kvs k
def DPut (H:Hp) (a:Addr) (y v:V) (H':Hp):Prop :=
 (∃ kvs k,H a=some (.dK kvs)∧y=kV k∧kvs.length < sizeLine∧H'=upd H a (.dK (putK kvs k v))) ∨
 ∃ kvs k b,H a=some (.dT kvs)∧y=.ref b∧H b=some (.tup (k.map kV))∧kvs.length < sizeLine∧H'=upd H a (.dT (putK kvs k v))
theorem DGet.t {H:Hp} {a b:Addr} {kvs:List (List Key×V)} {k:List Key} (e:H a=some (.dT kvs)) (eb:H b=some (.tup (k.map kV))):DGet H a (.ref b) (valV kvs k):=.inr ⟨kvs,k,b,.inl e,rfl,eb,rfl⟩
theorem DPut.t {H:Hp} {a b:Addr} {kvs:List (List Key×V)} {k:List Key} {v:V} (e:H a=some (.dT kvs)) (eb:H b=some (.tup (k.map kV))) (hl:kvs.length < sizeLine) :
  DPut H a (.ref b) v (upd H a (.dT (putK kvs k v))):=.inr ⟨kvs,k,b,e,rfl,eb,hl,rfl⟩
section
variable {X:Cx} {pins:List (Addr×Obj)} {σ:St} {H:Hp} {s:Shared} {a:Addr} {y v:V} {u r:Value} {o:Option V} {A:Around} {E:Value→Shared→Prop}
theorem Inv.big (I:Inv X pins σ H s):sysModules < s.heap.objs.size:=by
 have h:mainGlobals < s.heap.objs.size:=(I.mod.glob.keeps I.bk).lt
 exact Nat.lt_trans (by decide) h
theorem d_in {Q:Value→Shared→Prop} (hu:A.units+1 < cLine) (I:Inv X pins σ H s) (g:DGet H a y o) (ry:RelV y u) (h:∀ s',Inv X pins σ H s'→Q (.bool o.isSome) s') :
  wpAny (model X.prog X.w) A (compareOp .In u (.ref a)) Q E s:=by
 rcases g with ⟨kvs,k,e,ey,l⟩ | ⟨kvs,k,b,e,ey,eb,l⟩
 ·subst ey
  obtain ⟨z,hd,vs,rel,dd⟩:=dk_rd I.hok e
  refine wpAny_in_of (kV_is ry) hd dd.mapOf ?_
  rw [← (rel.val k).isSome_eq,← l]
  exact h _ (I.tok _)
 ·subst ey
  cases (show u=Value.ref b from ry)
  obtain ⟨z,hd,xs,rel,dd⟩:=dt_rd I.hok e
  refine wpAny_in_heap (tupleKind_room_in1 hu) (key_of I.hok eb) hd dd ?_
  have q:=(rel.val k).isSome_eq
  rw [Option.isSome_map] at q
  rw [← q,← l]
  exact h _ (I.tok _)
theorem d_notIn {Q:Value→Shared→Prop} (hu:A.units+1 < cLine) (I:Inv X pins σ H s) (g:DGet H a y o) (ry:RelV y u) (h:∀ s',Inv X pins σ H s'→Q (.bool (!o.isSome)) s') :
  wpAny (model X.prog X.w) A (compareOp .NotIn u (.ref a)) Q E s:=by
 rcases g with ⟨kvs,k,e,ey,l⟩ | ⟨kvs,k,b,e,ey,eb,l⟩
 ·subst ey
  obtain ⟨z,hd,vs,rel,dd⟩:=dk_rd I.hok e
  refine wpAny_notIn_of (kV_is ry) hd dd.mapOf ?_
  rw [← (rel.val k).isSome_eq,← l]
  exact h _ (I.tok _)
 ·subst ey
  cases (show u=Value.ref b from ry)
  obtain ⟨z,hd,xs,rel,dd⟩:=dt_rd I.hok e
  refine wpAny_notIn_heap (tupleKind_room_in1 hu) (key_of I.hok eb) hd dd ?_
  have q:=(rel.val k).isSome_eq
  rw [Option.isSome_map] at q
  rw [← q,← l]
  exact h _ (I.tok _)
theorem d_write {h':Heap} {t':Nat} {ob:HO} (I:Inv X pins σ H s) (mu:Mut (H a)) (hs:Heap.SameBut a s.heap h') (he:∃ q,h'.get? a=some q) (new:ObjOk X.prog X.w (upd H a ob) h' a ob) :
  Inv X pins σ (upd H a ob) { s with heap:=h',toks:=t' } :=
 I.write (x:=a) (e:=a) mu (.inl rfl) (fun b q hb z=>(hs.2 b hb).trans z) he new
theorem dk_new {P:Program} {w:World} {H':Hp} {h':Heap} {kvs:List (Key×V)} {vs:List (Key×Value)} (z:kvs.length≤sizeLine) (hd:(a == sysModules)=false) (rel:KV kvs vs) (dd:h'.DictOf (mixKind P w) a vs) :
  ObjOk P w H' h' a (.dK kvs):=⟨z,hd,vs,rel,dd⟩
theorem d_setItem {H':Hp} {Q:Unit→Shared→Prop} (hu:A.units+1 < cLine) (I:Inv X pins σ H s) (g:DPut H a y v H') (ry:RelV y u) (rv:RelV v r) (h:∀ s',Inv X pins σ H' s'→Q () s') :
  wpAny (model X.prog X.w) A (setItem (.ref a) u r) Q E s:=by
 rcases g with ⟨kvs,k,e,ey,l,eH⟩ | ⟨kvs,k,b,e,ey,eb,l,eH⟩
 ·subst ey eH
  obtain ⟨z,hd,vs,rel,dd⟩:=dk_of I.hok e
  have hz:vs.length≤sizeLine:=by rw [← rel.length]; exact z
  have hl:(putK kvs k v).length≤sizeLine:=by have:=length_putK kvs k v; omega
  refine wpAny_setItem_pairs (hsz:=hz) (kV_is ry) dd fun h' dd' hs=>h _ ?_
  have he:∃ q,h'.get? a=some q:=let ⟨q,_,_,hq,_⟩:=dd'; ⟨q,hq⟩
  exact d_write I (by rw [e]; exact True.intro) hs he (dk_new hl hd (rel.put k rv) dd')
 ·subst ey eH
  cases (show u=Value.ref b from ry)
  obtain ⟨z,hd,xs,rel,dd⟩:=dt_of I.hok e
  have hz:xs.length≤sizeLine:=by rw [← Paired.length rel]; exact z
  have hl:(putK kvs k v).length≤sizeLine:=by have:=length_putK kvs k v; omega
  refine wpAny_setItem_heap (hsz:=hz) (tupleKind_room_in1 hu) (key_of I.hok eb) dd fun h' dd' hs=>h _ ?_
  obtain ⟨q,es,ep,hq,h2,h3,h4,_,h5⟩:=dd'
  refine d_write I (by rw [e]; exact True.intro) hs ⟨q,hq⟩ ⟨hl,hd,_,(rel.put k eb rv).keeps fun c ys ec=>?_,q,es,ep,hq,h2,h3,h4,h5⟩
  rw [upd_ne (ne_of ec e (fun z=>nomatch z))]
  exact ec
end
section
variable {X:Cx} {pins:List (Addr×Obj)} {σ:St} {H:Hp} {s:Shared} {a:Addr} {kvs:List (Key×V)} {k:Key} {u:Value} {A:Around} {E:Value→Shared→Prop}
end
def tDIn (ty td:TE):TE:=fun σ H Q=>ty σ H fun y H1=>td σ H1 fun x H2=>∃ a o,x=.ref a∧DGet H2 a y o∧Q (.bl o.isSome) H2
def tDNotIn (ty td:TE):TE:=fun σ H Q=>ty σ H fun y H1=>td σ H1 fun x H2=>∃ a o,x=.ref a∧DGet H2 a y o∧Q (.bl (!o.isSome)) H2
def sDPut (td ty tv:TE):TS:=fun D σ H=>tv σ H fun v H1=>td σ H1 fun x H2=>ty σ H2 fun y H3=>∃ a H4,x=.ref a∧DPut H3 a y v H4∧D.nx σ H4
section
variable {X:Cx} {o i e value:Expr} {pos pos' tpos:Pos} {td ty tv:TE}
theorem pc_din (hu:X.A.units+1 < cLine) (hi:PE X i ty) (ho:PE X o td):PC X .In i o (tDIn ty td):=by
 intro pins s σ H Q I h
 refine thn (hi pins s σ H _ I h) fun iv s1 ⟨y,H1,I1,ry,q1⟩=>thn (ho pins s1 σ H1 _ I1 q1) fun u s2 ⟨x,H2,I2,rx,a,ov,ex,g,q2⟩=>?_
 subst ex
 obtain rfl:u=Value.ref a:=rx
 exact d_in hu I2 g ry fun s3 I3=>⟨.bl ov.isSome,H2,I3,rfl,q2⟩
theorem pc_dnotin (hu:X.A.units+1 < cLine) (hi:PE X i ty) (ho:PE X o td):PC X .NotIn i o (tDNotIn ty td):=by
 intro pins s σ H Q I h
 refine thn (hi pins s σ H _ I h) fun iv s1 ⟨y,H1,I1,ry,q1⟩=>thn (ho pins s1 σ H1 _ I1 q1) fun u s2 ⟨x,H2,I2,rx,a,ov,ex,g,q2⟩=>?_
 subst ex
 obtain rfl:u=Value.ref a:=rx
 exact d_notIn hu I2 g ry fun s3 I3=>⟨.bl (!ov.isSome),H2,I3,rfl,q2⟩
theorem ps_dput (hu:X.A.units+1 < cLine) (ho:PE X o td) (hi:PE X i ty) (hv:PE X value tv) (hs:swapsWith value (some (.Subscript o i pos')) pos.line X.env=pure false) :
  PS X (.Assign [.Subscript o i pos'] value pos) (sDPut td ty tv):=by
 intro pins s σ H D I h
 refine wpAny_Assign_Subscript (thn (hv pins s σ H _ I h) fun r s1 ⟨v,H1,I1,rv,q1⟩=>thn (ho pins s1 σ H1 _ I1 q1) fun u s2 ⟨x,H2,I2,rx,q2⟩=>thn (hi pins s2 σ H2 _ I2 q2) fun iv s3 ⟨y,H3,I3,ry,a,H4,ex,g,q3⟩=>?_) hs
 subst ex
 obtain rfl:u=Value.ref a:=rx
 exact d_setItem hu I3 g ry rv fun s4 I4=>⟨σ,H4,I4,q3⟩
end
theorem dt_empty {P:Program} {w:World} {H:Hp} (h:Heap) (hb:sysModules < h.objs.size):ObjOk P w H (h.push { cls:=.type "dict",data:=.dict #[] }) h.objs.size (.dT []) :=
 ⟨Nat.zero_le _,beq_eq_false_iff_ne.mpr (Ne.symm (Nat.ne_of_lt hb)),[],.nil,_,#[],0,Heap.get?_push_size _ rfl,⟨rfl,rfl,rfl⟩,rfl,rfl,List.nodup_nil⟩
def tDNewT:TE:=fun _ H Q=>∀ p,H p=none→Q (.ref p) (upd H p (.dT []))
section
variable {X:Cx} {pos:Pos}
theorem pe_dnewT:PE X (.Dict [] [] pos) tDNewT:=fun pins s σ H Q I h =>
 wpAny_Dict_empty ⟨.ref s.heap.objs.size,_,I.laid (a:=s.heap.objs.size) (o:=.dT []) (t':=s.toks) (fun _ _ q=>Heap.get?_push_of_some _ q) (Nat.le_refl _) (dt_empty s.heap I.big),rfl,h _ (I.hok.fresh (Nat.le_refl _))⟩
end
section
variable {X:Cx} {pins:List (Addr×Obj)} {σ:St} {H:Hp} {s:Shared} {a:Addr} {y d:V} {u r:Value} {o:Option V} {A:Around} {E:Value→Shared→Prop}
end
section
variable {X:Cx} {o e f:Expr} {apos cpos:Pos} {td ty tx:TE}
end
section
variable {X:Cx} {pins:List (Addr×Obj)} {σ:St} {H:Hp} {s:Shared} {a:Addr} {kvs:List (Key×V)} {A:Around} {E:Value→Shared→Prop}
end
section
variable {X:Cx} {pins:List (Addr×Obj)} {σ:St} {H:Hp} {s:Shared} {a:Addr} {y:V} {u:Value} {A:Around} {E:Value→Shared→Prop}
end
end L2
namespace Att
open PySem PySem.W PySem.Calls PyProof.Rows
section
variable {prog:Program} {w:World} {A:Around} {E:Value→Shared→Prop} {s:Shared} {K:Frag}
end
end Att
namespace L2
open PySem PySem.Spec PyProof.Rows
end L2
/- THE LAST THEOREM (shape; LID, My.* are yours):
  My.Adr: a structure of the addresses that your layer names (classes, functions); My.Txt K t: a structure (Prop) of the equations over K;
  My.txt_mk : {K} {implicit addresses ..} (e1 : nsIn K mainGlobals "law" = some (some (.ref f))) (e2 : K.lookup f = some ⟨oc, od, .func (fnOf "law" "law" params body scope dV kV doc pm an cdv ct), sl⟩) (e3 : codeIn K cdv "law" = true) .. : ∃ t, My.Txt K t
(the tactic k_is has no namespace: write k_is) -/
namespace L2
open PySem PySem.Spec PyProof.Rows
section
variable {P:Program} {w:World} {K:PySem.W.Frag} {mg:Str→Option Value} {base:Heap}
end
section
variable {X:Cx}
end
section
variable {κ:Type} [DecidableEq κ]
theorem valV_not {kvs:List (κ×V)} {k:κ} (h:valV kvs k=none):¬ k∈kvs.map (·.1):=by
 intro m
 obtain ⟨p,hp,e⟩:=List.mem_map.mp m
 have q:(kvs.any fun kv=>decide (kv.1=k))=true:=List.any_eq_true.mpr ⟨p,hp,decide_eq_true e⟩
 rw [valV_any,h] at q
 exact absurd q (by simp)
theorem valV_in {kvs:List (κ×V)} {k:κ} {v:V} (h:valV kvs k=some v):k∈kvs.map (·.1):=by
 have q:(kvs.any fun kv=>decide (kv.1=k))=true:=by
  rw [valV_any,h]
  all_goals rfl
 obtain ⟨p,hp,e⟩:=List.any_eq_true.mp q
 exact List.mem_map.mpr ⟨p,hp,of_decide_eq_true e⟩
theorem nd_snoc:∀ {l:List κ} {k:κ},l.Nodup→¬ k∈l→(l++[k]).Nodup
 | [],k,_,_=>by simp
 | a::r,k,h,hk=>by
  obtain ⟨h1,h2⟩:=List.nodup_cons.mp h
  show (a::(r++[k])).Nodup
  refine List.nodup_cons.mpr ⟨fun m=>?_,nd_snoc h2 fun m=>hk (List.mem_cons.mpr (Or.inr m))⟩
  rcases List.mem_append.mp m with q | q
  ·exact h1 q
  ·exact hk (List.mem_cons.mpr (Or.inl (List.mem_singleton.mp q).symm))
end
end L2
namespace L2
open PySem PySem.Spec PyProof.Rows PySem.W
section
variable {O:KeyOrd} {key:Nat→O.α} {N:Nat} {p:Array Nat}
noncomputable def kk (key:Nat→O.α) (p:Array Nat) (i:Nat):O.α:=key (p[i]?.getD 0)
end
theorem lex_irrefl:∀ a:List Int,HT.lexLt a a=false
 | []=>rfl
 | x::xs=>by rw [HT.lexLt_cons,if_pos rfl]; exact lex_irrefl xs
theorem lex_trans:∀ a b c:List Int,HT.lexLt a b=true→HT.lexLt b c=true→HT.lexLt a c=true
 | [],[],_,h,_=>by cases h
 | _::_,[],_,h,_=>by cases h
 | _,_::_,[],_,h=>by cases h
 | [],_::_,_::_,_,_=>rfl
 | x::xs,y::ys,z::zs,h1,h2=>by
  rw [HT.lexLt_cons] at h1 h2 ⊢
  by_cases e1:x=y
  ·rw [if_pos e1] at h1
   by_cases e2:y=z
   ·rw [if_pos e2] at h2
    rw [if_pos (e1.trans e2)]
    exact lex_trans xs ys zs h1 h2
   ·rw [if_neg e2] at h2
    rw [if_neg (by rw [e1]; exact e2),e1]
    exact h2
  ·rw [if_neg e1] at h1
   have h1:=of_decide_eq_true h1
   by_cases e2:y=z
   ·rw [if_neg (by rw [← e2]; exact e1),← e2]
    exact decide_eq_true h1
   ·rw [if_neg e2] at h2
    have h2:=of_decide_eq_true h2
    rw [if_neg (by omega)]
    exact decide_eq_true (by omega)
theorem lex_total:∀ a b:List Int,HT.lexLt a b=false→HT.lexLt b a=false→a=b
 | [],[],_,_=>rfl
 | [],_::_,h,_=>by cases h
 | _::_,[],_,h=>by cases h
 | x::xs,y::ys,h1,h2=>by
  rw [HT.lexLt_cons] at h1 h2
  by_cases e:x=y
  ·subst e
   rw [if_pos rfl] at h1 h2
   rw [lex_total xs ys h1 h2]
  ·rw [if_neg e] at h1
   rw [if_neg (Ne.symm e)] at h2
   have h1:=of_decide_eq_false h1
   have h2:=of_decide_eq_false h2
   omega
theorem lex_neg (a b c:List Int) (h:HT.lexLt a c=true):HT.lexLt a b=true∨HT.lexLt b c=true:=by
 cases h1:HT.lexLt a b with
 | true=>exact .inl rfl
 | false =>
  refine .inr ?_
  cases h2:HT.lexLt b a with
  | true=>exact lex_trans b a c h2 h
  | false=>rw [← lex_total a b h1 h2]; exact h
noncomputable def OL:KeyOrd:=⟨List Int,HT.lexLt,lex_irrefl,lex_trans,lex_neg,lex_total⟩
def Rises (tss:LLI):Prop:=tss.Pairwise fun a b=>HT.lexLt b a=false
section
variable {prog:Program} {w:World} {A:Around} {E:Value→Shared→Prop} {s:Shared}
noncomputable def lexF (fin:Bool):List Int→List Int→Bool
 | [],_=>fin
 | _::_,[]=>fin
 | x::xs,y::ys=>if x=y then lexF fin xs ys else decide (x < y)
theorem lexF_lex:∀ (xs ys:List Int),lexF (decide (xs.length < ys.length)) xs ys=HT.lexLt xs ys
 | [],[]=>rfl
 | [],y::ys=>by
  show decide (0 < ys.length+1)=true
  exact decide_eq_true (by omega)
 | x::xs,[]=>by
  show decide (xs.length+1 < 0)=false
  exact decide_eq_false (by omega)
 | x::xs,y::ys=>by
  rw [HT.lexLt_cons]
  show (if x=y then _ else _)=_
  split
  ·rw [← lexF_lex xs ys]
   congr 1
   simp only [List.length_cons]
   exact decide_eq_decide.mpr (by omega)
  ·rfl
theorem oneLt_any {flag:Bool} {a b:Int} {t u:Tok} {Q:Bool→Shared→Prop} (h:Q (decide (a < b)) s):wpAny (model prog w) A (oneLt' flag (.int a t) (.int b u)) Q E s:=by
 cases flag with
 | true=>exact oneLt_int h
 | false=>exact kat_one _ _ (lt_int h)
theorem katlex_ints {b fin:Bool} {Q:Bool→Shared→Prop}:∀ {vs ws:List Value} {ns ms:List Int} (i:Nat),IntsAre vs ns→IntsAre ws ms→Q (lexF fin ns ms) s→KatLex prog w A b fin Q (vs.zip ws) i s
 | _,_,_,_,i,.nil,_,h=>h
 | _,_,_,_,i,.cons _ _ _,.nil,h=>h
 | _,_,_,_,i,.cons x t hx,.cons y u hy,h=>by
  rw [List.zip_cons_cons]
  refine kat_cons (wpAny_eqBool_int ?_)
  have h:Q (if x=y then lexF fin _ _ else decide (x < y)) s:=h
  by_cases e:x=y
  ·rw [if_pos e] at h
   rw [show (x == y)=true from beq_iff_eq.mpr e]
   exact kat_yes (katlex_ints (i+1) hx hy h)
  ·rw [if_neg e] at h
   rw [show (x == y)=false from beq_eq_false_iff_ne.mpr e]
   exact kat_no (oneLt_any h)
def TupsAre (h:Heap) (vs:List Value) (rss:LLI):Prop:=vs.length=rss.length∧∀ (i:Nat) (v:Value),vs[i]?=some v→∃ (r:List Int) (b:Addr) (its:Array Value),rss[i]?=some r∧v=Value.ref b∧IsTup h b its∧IntsAre its.toList r
theorem TupsAre.keeps {h h':Heap} {vs:List Value} {rss:LLI} (t:TupsAre h vs rss) (k:∀ b its,IsTup h b its→IsTup h' b its):TupsAre h' vs rss :=
 ⟨t.1,fun i v e=>let ⟨r,b,its,e1,e2,e3,e4⟩:=t.2 i v e; ⟨r,b,its,e1,e2,k _ _ e3,e4⟩⟩
theorem tups_kat {h:Heap}:∀ {vs:List Value} {rss:LLI},TupsAre h vs rss→(∀ r∈rss,0 < r.length)→∃ fs,KatTups h vs fs∧fs.length=vs.length∧∀ f∈fs,∃ n t,f=Value.int n t
 | [],_,_,_=>⟨[],trivial,rfl,fun _ z=>nomatch z⟩
 | v::vs,[],T,_=>by cases T.1
 | v::vs,r::rss,T,hw=>by
  obtain ⟨fs,h1,h2,h3⟩:=tups_kat (vs:=vs) (rss:=rss) ⟨by have:=T.1; simpa using this,fun i u e=>T.2 (i+1) u e⟩ fun r hr=>hw r (List.mem_cons_of_mem _ hr)
  obtain ⟨r',b,its,e1,e2,⟨o,q1,q2,n,q3⟩,e4⟩:=T.2 0 v rfl
  cases e1
  have hr:=hw r List.mem_cons_self
  obtain ⟨x,t,us,e5⟩:∃ x t us,its.toList=Value.int x t::us:=by
   generalize its.toList=l at e4
   cases e4 with
   | nil=>simp at hr
   | cons x t h=>exact ⟨x,t,_,rfl⟩
  refine ⟨.int x t::fs,⟨⟨b,o,its,n,e2,q1,q2,q3,?_⟩,h1⟩,by simp [h2],fun f hf=>?_⟩
  ·rw [← Array.getElem?_toList,e5]; rfl
  ·rcases List.mem_cons.mp hf with rfl | hf
   ·exact ⟨x,t,rfl⟩
   ·exact h3 f hf
theorem tups_kind {vs:List Value} {rss:LLI} {Q:SortKind→Shared→Prop} (T:TupsAre s.heap vs rss) (hw:∀ r∈rss,0 < r.length) (hv:0 < vs.length) (h:Q (tuples' true) s):wpAny (model prog w) A (keyKind' vs.toArray) Q E s:=by
 obtain ⟨fs,h1,h2,h3⟩:=tups_kat T hw
 refine kat_kind (T:=.type "int") h1 (by omega) (fun v hv=>?_) rfl ?_
 ·obtain ⟨n,t,rfl⟩:=h3 v hv
  exact .now
 ·rw [show (Value.type "int" != Value.type "tuple")=true from rfl]
  exact h
end
section
variable {prog:Program} {w:World} {A:Around} {E:Value→Shared→Prop} {s:Shared}
theorem sortedHeap_keep {h:Heap} {a:Addr} {vs:List Value} {out:Array Value}:∀ b o,b≠a→h.get? b=some o→(sortedHeap h a vs out).get? b=some o:=fun b o hb e=>by
 unfold sortedHeap
 rw [Heap.get?_update_ne _ _ _ _ hb]
 exact Heap.get?_push_of_some _ (Heap.get?_push_of_some _ (by rw [Heap.get?_update_ne _ _ _ _ hb]; exact e))
theorem sortedHeap_at {h:Heap} {a:Addr} {vs:List Value} {out:Array Value} {n:Nat} (ho:h.get? a=some (seqObj "list" vs.toArray n)):∃ c,(sortedHeap h a vs out).get? a=some (seqObj "list" out c):=by
 unfold sortedHeap
 have ha:a < h.objs.size:=Heap.lt_size ho
 obtain ⟨e1,ho1⟩:∃ e1,(h.update a (Obj.mapSeq fun _=>#[])).get? a=some (seqObj "list" #[] e1):=⟨_,get?_update_seq ho (fun _=>#[])⟩
 have ho6:(((h.update a (Obj.mapSeq fun _=>#[])).push (seqObj "tuple" vs.toArray 0)).push (seqObj "list" #[] 0)).get? a=some (seqObj "list" #[] e1):=Heap.get?_push_of_some _ (Heap.get?_push_of_some _ ho1)
 exact ⟨_,get?_update_seq ho6 (fun _=>out)⟩
end
section
variable {X:Cx}
theorem its_tups {pins:List (Addr×Obj)} {σ:St} {H:Hp} {s:Shared} (I:Inv X pins σ H s) {ys:List V} {rss:LLI} {us:List Value} (h:Its H ys rss) (r:Vals ys us):TupsAre s.heap us rss:=by
 refine ⟨by rw [← r.length]; exact h.1,fun i v e=>?_⟩
 have hi:i < ys.length:=by rw [r.length]; exact (List.getElem?_eq_some_iff.mp e).1
 obtain ⟨u,e1,e2⟩:=r.get (List.getElem?_eq_getElem hi)
 rw [e] at e1
 cases e1
 obtain ⟨row,q1,a,q2,q3⟩:=h.2 i _ (List.getElem?_eq_getElem hi)
 rw [q2] at e2
 cases e2
 obtain ⟨its,rv,tp,_⟩:=I.tuple (SqT.of (K:=X.K) q3)
 exact ⟨row,a,its.toArray,q1,rfl,tp,by simpa using intsAre_of rv⟩
end
noncomputable def gallop':Bool→Keyed→Array Keyed→Nat→Nat→Nat→StateT SortSt Sem (Option Nat):=sortPriv% PySem.Builtin.gallop
noncomputable def beyond' (left:Bool) (key:Keyed) (arr:Array Keyed) (base:Nat) (i:Nat):StateT SortSt Sem (Option Bool):=do
 let x ← elem' arr (base+i)
 if left then lt' x key else return (← lt' key x).map (!·)
noncomputable def bis' (left:Bool) (key:Keyed) (arr:Array Keyed) (base n lo₀ hi₀:Nat):StateT SortSt Sem (Option Nat):=do
 let mut lo:=lo₀
 let mut hi:=hi₀
 for _ in [0:n] do
  if lo ≥ hi then break
  let m:=lo+(hi - lo) / 2
  let some more ← beyond' left key arr base m | return none
  if more then lo:=m+1 else hi:=m
 return some hi
theorem gallop'_eq (left:Bool) (key:Keyed) (arr:Array Keyed) (base n hint:Nat):gallop' left key arr base n hint=(beyond' left key arr base hint >>= fun r=>match r with
 | some right=>(if right=true then
   (forIn [:n] ((none,0,1):Option (Option Nat)×Nat×Nat) (fun _ c=>if c.2.2 ≥ n - hint then pure (.done (none,c.2.1,c.2.2)) else beyond' left key arr base (hint+c.2.2) >>= fun r=>match r with
     | some more=>(if (!more)=true then pure (.done (none,c.2.1,c.2.2)) else pure (.yield (none,c.2.2,2*c.2.2+1)))
     | _=>pure (.done (some none,c.2.1,c.2.2))) >>= fun c=>match c.1 with
    | some r=>pure r
    | none=>bis' left key arr base n (hint+c.2.1+1) (hint+min c.2.2 (n - hint)))
  else
   (forIn [:n] ((none,0,1):Option (Option Nat)×Nat×Nat) (fun _ c=>if c.2.2 ≥ hint+1 then pure (.done (none,c.2.1,c.2.2)) else beyond' left key arr base (hint - c.2.2) >>= fun r=>match r with
     | some found=>(if found=true then pure (.done (none,c.2.1,c.2.2)) else pure (.yield (none,c.2.2,2*c.2.2+1)))
     | _=>pure (.done (some none,c.2.1,c.2.2))) >>= fun c=>match c.1 with
    | some r=>pure r
    | none=>bis' left key arr base n (hint+1 - min c.2.2 (hint+1)) (hint - c.2.1)))
 | _=>pure none):=by
 show (_ >>= _)=(_ >>= _)
 refine congrArg _ (funext fun r=>?_)
 cases r with
 | none=>rfl
 | some right =>
  dsimp only
  refine ite_congr rfl (fun _=>?_) (fun _=>?_)
  ·refine congr (congrArg _ (congrArg _ (funext fun _=>funext fun c=>?_))) (funext fun c=>?_)
   ·rfl
   ·rcases c with ⟨_ | q,c⟩ <;> rfl
  ·refine congr (congrArg _ (congrArg _ (funext fun _=>funext fun c=>?_))) (funext fun c=>?_)
   ·rfl
   ·rcases c with ⟨_ | q,c⟩ <;> rfl
section
variable {prog:Program} {w:World} {A:Around} {E:Value→Shared→Prop} {s:Shared}
def Cmp (prog:Program) (w:World) (A:Around) (s:Shared) (κ:SortKind) (D:Keyed→Prop) (lt:Keyed→Keyed→Bool):Prop :=
 ∀ x y (C:Bool→Shared→Prop),D x→D y→C (lt x y) s→wpAny (model prog w) A (keyLt' κ x.1 y.1) C (fun _ _=>False) s
variable {κ:SortKind} {D:Keyed→Prop} {lt:Keyed→Keyed→Bool}
theorem wpS_cmp {st:SortSt} {x y:Keyed} {Q:Option Bool→SortSt→Prop} (hc:Cmp prog w A s κ D lt) (hk:kindOf st=κ) (hx:D x) (hy:D y) (h:Q (some (lt x y)) st):wpS (model prog w) A E s (lt' x y) Q st:=by
 rw [lt'_eq]
 refine wpS_bind (wpS_get ?_)
 rw [hk]
 refine wpS_bind (wpS_lift (wpAny_attempt (wpAny_mono (hc x y (fun b s'=>s'=s∧b=lt x y) hx hy ⟨rfl,rfl⟩) (fun b s' ⟨e1,e2⟩=>?_) fun _ _ z=>z.elim)))
 rw [e1,e2]
 exact ⟨rfl,wpS_pure h⟩
noncomputable def ahead (lt:Keyed→Keyed→Bool) (left:Bool) (key x:Keyed):Bool:=if left then lt x key else !(lt key x)
theorem wpS_beyond {st:SortSt} {left:Bool} {key x:Keyed} {arr:Array Keyed} {base i:Nat} {Q:Option Bool→SortSt→Prop} (hc:Cmp prog w A s κ D lt) (hk:kindOf st=κ) (hkey:D key) (hx:D x) (he:arr[base+i]?=some x) (h:Q (some (ahead lt left key x)) st) :
  wpS (model prog w) A E s (beyond' left key arr base i) Q st:=by
 unfold beyond'
 rw [elem'_eq,he]
 refine wpS_bind (wpS_pure ?_)
 unfold ahead at h
 cases left with
 | true=>exact wpS_cmp hc hk hx hkey h
 | false=>exact wpS_bind (wpS_cmp hc hk hkey hx (wpS_pure h))
theorem wpS_bis {st:SortSt} {left:Bool} {key:Keyed} {arr:Array Keyed} {base n lo hi:Nat} {Q:Option Nat→SortSt→Prop} (bb:Nat→Bool)
  (ask:∀ i,i < n→∀ {R:Option Bool→SortSt→Prop},R (some (bb i)) st→wpS (model prog w) A E s (beyond' left key arr base i) R st) (mono:∀ i j,i≤j→j < n→bb j=true→bb i=true) (neg:∀ i j,i≤j→j < n→bb i=false→bb j=false)
  (h1:lo≤hi) (h2:hi≤n) (h3:∀ i,i < lo→bb i=true) (h4:∀ i,hi≤i→i < n→bb i=false)
  (h:∀ k,k≤n→(∀ i,i < k→bb i=true)→(∀ i,k≤i→i < n→bb i=false)→Q (some k) st):wpS (model prog w) A E s (bis' left key arr base n lo hi) Q st:=by
 unfold bis'
 dsimp only
 refine wpS_bind (wpS_mono (wpS_forRange (I:=fun x c st'=>st'=st∧∃ l r,c=(none,l,r)∧l≤r∧r≤n∧r - l≤n - x∧(∀ i,i < l→bb i=true)∧(∀ i,r≤i→i < n→bb i=false))
  (Q:=fun c st'=>st'=st∧∃ l,c=(none,l,l)∧l≤n∧(∀ i,i < l→bb i=true)∧(∀ i,l≤i→i < n→bb i=false)) ?step ?fin ⟨rfl,lo,hi,rfl,h1,h2,by omega,h3,h4⟩) ?post)
 case fin =>
  rintro c st' ⟨rfl,l,r,rfl,a1,a2,a3,a4,a5⟩
  have e:l=r:=by omega
  subst e
  exact ⟨rfl,l,rfl,a2,a4,a5⟩
 case step =>
  rintro x c st' _ hx ⟨rfl,l,r,rfl,a1,a2,a3,a4,a5⟩
  dsimp only
  by_cases hge:l ≥ r
  ·rw [if_pos hge]
   have e:l=r:=by omega
   subst e
   exact wpS_pure ⟨rfl,l,rfl,a2,a4,a5⟩
  ·rw [if_neg hge]
   have hm:l+(r - l) / 2 < n:=by omega
   refine wpS_bind (ask _ hm ?_)
   dsimp only
   cases hb:bb (l+(r - l) / 2) with
   | true =>
    rw [if_pos rfl]
    exact wpS_pure ⟨rfl,_,r,rfl,by omega,a2,by omega,fun i hi=>mono i _ (by omega) hm hb,a5⟩
   | false =>
    rw [if_neg (by simp)]
    exact wpS_pure ⟨rfl,l,_,rfl,by omega,by omega,by omega,a4,fun i h1 h2=>neg _ i h1 h2 hb⟩
 case post =>
  rintro c st' ⟨rfl,l,rfl,a2,a4,a5⟩
  exact wpS_pure (h l a2 a4 a5)
theorem wpS_gallop {st:SortSt} {left:Bool} {key:Keyed} {arr:Array Keyed} {base n hint:Nat} {Q:Option Nat→SortSt→Prop} (hc:Cmp prog w A s κ D lt) (hk:kindOf st=κ) (hkey:D key) (bb:Nat→Bool)
  (hb:∀ i,i < n→∃ x,arr[base+i]?=some x∧D x∧ahead lt left key x=bb i) (mono:∀ i j,i≤j→j < n→bb j=true→bb i=true) (hh:hint < n)
  (h:∀ k,k≤n→(∀ i,i < k→bb i=true)→(∀ i,k≤i→i < n→bb i=false)→Q (some k) st):wpS (model prog w) A E s (gallop' left key arr base n hint) Q st:=by
 have ask:∀ i,i < n→∀ {R:Option Bool→SortSt→Prop},R (some (bb i)) st→wpS (model prog w) A E s (beyond' left key arr base i) R st:=fun i hi R hR=>by
  obtain ⟨x,e1,e2,e3⟩:=hb i hi
  exact wpS_beyond hc hk hkey e2 e1 (by rw [e3]; exact hR)
 have neg:∀ i j,i≤j→j < n→bb i=false→bb j=false:=fun i j hij hj e=>by
  cases e2:bb j with
  | false=>rfl
  | true=>rw [mono i j hij hj e2] at e; cases e
 rw [gallop'_eq]
 refine wpS_bind (ask hint hh ?_)
 dsimp only
 cases hb0:bb hint with
 | true =>
  rw [if_pos rfl]
  refine wpS_bind (wpS_mono (wpS_forRange (I:=fun x c st'=>st'=st∧∃ l o,c=(none,l,o)∧l < o∧x+1≤o∧hint+l < n∧bb (hint+l)=true)
   (Q:=fun c st'=>st'=st∧∃ l o,c=(none,l,o)∧l < o∧hint+l < n∧bb (hint+l)=true∧(o ≥ n - hint∨bb (hint+o)=false)) ?step ?fin ⟨rfl,0,1,rfl,by omega,by omega,by omega,hb0⟩) ?post)
  case fin =>
   rintro c st' ⟨rfl,l,o,rfl,a1,a2,a3,a4⟩
   exact ⟨rfl,l,o,rfl,a1,a3,a4,.inl (by omega)⟩
  case step =>
   rintro x c st' _ hx ⟨rfl,l,o,rfl,a1,a2,a3,a4⟩
   dsimp only
   by_cases hge:o ≥ n - hint
   ·rw [if_pos hge]
    exact wpS_pure ⟨rfl,l,o,rfl,a1,a3,a4,.inl hge⟩
   ·rw [if_neg hge]
    refine wpS_bind (ask _ (by omega) ?_)
    dsimp only
    cases hb:bb (hint+o) with
    | true =>
     rw [if_neg (by simp)]
     exact wpS_pure ⟨rfl,o,2*o+1,rfl,by omega,by omega,by omega,hb⟩
    | false =>
     rw [if_pos (by rfl)]
     exact wpS_pure ⟨rfl,l,o,rfl,a1,a3,a4,.inr hb⟩
  case post =>
   rintro c st' ⟨rfl,l,o,rfl,a1,a3,a4,a5⟩
   dsimp only
   refine wpS_bis (lo:=hint+l+1) (hi:=hint+min o (n - hint)) bb ask mono neg (by omega) (by omega) (fun i hi=>mono i (hint+l) (by omega) a3 a4) (fun i h1 h2=>?_) h
   rcases a5 with a5 | a5
   ·omega
   ·exact neg (hint+o) i (by omega) h2 a5
 | false =>
  rw [if_neg (by simp)]
  refine wpS_bind (wpS_mono (wpS_forRange (I:=fun x c st'=>st'=st∧∃ l o,c=(none,l,o)∧l < o∧x+1≤o∧l≤hint∧bb (hint - l)=false)
   (Q:=fun c st'=>st'=st∧∃ l o,c=(none,l,o)∧l < o∧l≤hint∧bb (hint - l)=false∧(o ≥ hint+1∨bb (hint - o)=true)) ?step ?fin ⟨rfl,0,1,rfl,by omega,by omega,by omega,hb0⟩) ?post)
  case fin =>
   rintro c st' ⟨rfl,l,o,rfl,a1,a2,a3,a4⟩
   exact ⟨rfl,l,o,rfl,a1,a3,a4,.inl (by omega)⟩
  case step =>
   rintro x c st' _ hx ⟨rfl,l,o,rfl,a1,a2,a3,a4⟩
   dsimp only
   by_cases hge:o ≥ hint+1
   ·rw [if_pos hge]
    exact wpS_pure ⟨rfl,l,o,rfl,a1,a3,a4,.inl hge⟩
   ·rw [if_neg hge]
    refine wpS_bind (ask _ (by omega) ?_)
    dsimp only
    cases hb:bb (hint - o) with
    | true =>
     rw [if_pos rfl]
     exact wpS_pure ⟨rfl,l,o,rfl,a1,a3,a4,.inr hb⟩
    | false =>
     rw [if_neg (by simp)]
     exact wpS_pure ⟨rfl,o,2*o+1,rfl,by omega,by omega,by omega,hb⟩
  case post =>
   rintro c st' ⟨rfl,l,o,rfl,a1,a3,a4,a5⟩
   dsimp only
   refine wpS_bis (lo:=hint+1 - min o (hint+1)) (hi:=hint - l) bb ask mono neg (by omega) (by omega) (fun i hi=>?_) (fun i h1 h2=>neg (hint - l) i h1 h2 a4) h
   rcases a5 with a5 | a5
   ·omega
   ·exact mono i (hint - o) (by omega) (by omega) a5
end
section
variable {O:KeyOrd} {kf:Keyed→O.α} {la lb o:List Keyed} {ia ib:Nat}
def leK (kf:Keyed→O.α) (x y:Keyed):Prop:=O.kle (kf x) (kf y)
noncomputable def ltK (kf:Keyed→O.α) (x y:Keyed):Bool:=O.blt (kf x) (kf y)
structure MS (kf:Keyed→O.α) (la lb o:List Keyed) (ia ib:Nat):Prop where
 perm:o.Perm (la.take ia++lb.take ib)
 sorted:o.Pairwise (leK kf)
 ra:∀ x∈o,∀ y∈la.drop ia,leK kf x y
 rb:∀ x∈o,∀ y∈lb.drop ib,leK kf x y
theorem drop_at {α:Type} {l:List α} {i:Nat} {x:α} (h:l[i]?=some x):l.drop i=x::l.drop (i+1):=by
 obtain ⟨hi,e⟩:=List.getElem?_eq_some_iff.mp h
 rw [List.drop_eq_getElem_cons hi,e]
theorem sorted_drop {l:List Keyed} {i:Nat} {x:Keyed} (hs:l.Pairwise (leK kf)) (h:l[i]?=some x):∀ y∈l.drop (i+1),leK kf x y:=by
 have:=hs.drop (i:=i)
 rw [drop_at h] at this
 exact (List.pairwise_cons.mp this).1
theorem take_at {α:Type} {l:List α} {i:Nat} {x:α} (h:l[i]?=some x):l.take (i+1)=l.take i++[x]:=by
 rw [List.take_add_one,h]; rfl
theorem MS.stepA {x:Keyed} (h:MS kf la lb o ia ib) (hs:la.Pairwise (leK kf)) (e:la[ia]?=some x) (hb:∀ y∈lb.drop ib,leK kf x y):MS kf la lb (o++[x]) (ia+1) ib:=by
 have hx:x∈la.drop ia:=by rw [drop_at e]; exact List.mem_cons_self
 refine ⟨?_,?_,fun z hz y hy=>?_,fun z hz y hy=>?_⟩
 ·rw [take_at e]
  have:=h.perm.append_right [x]
  refine this.trans ?_
  rw [List.append_assoc,List.append_assoc]
  exact List.Perm.append_left _ List.perm_append_comm
 ·rw [List.pairwise_append]
  exact ⟨h.sorted,List.pairwise_singleton _ _,fun z hz y hy=>by rw [List.mem_singleton.mp hy]; exact h.ra z hz x hx⟩
 ·have hy':y∈la.drop ia:=by rw [drop_at e]; exact List.mem_cons_of_mem _ hy
  rcases List.mem_append.mp hz with q | q
  ·exact h.ra z q y hy'
  ·rw [List.mem_singleton.mp q]; exact sorted_drop hs e y hy
 ·rcases List.mem_append.mp hz with q | q
  ·exact h.rb z q y hy
  ·rw [List.mem_singleton.mp q]; exact hb y hy
theorem MS.swap (h:MS kf la lb o ia ib):MS kf lb la o ib ia:=⟨h.perm.trans List.perm_append_comm,h.sorted,h.rb,h.ra⟩
theorem MS.stepB {x:Keyed} (h:MS kf la lb o ia ib) (hs:lb.Pairwise (leK kf)) (e:lb[ib]?=some x) (ha:∀ y∈la.drop ia,leK kf x y):MS kf la lb (o++[x]) ia (ib+1) :=
 (h.swap.stepA hs e ha).swap
theorem MS.bulkA (hs:la.Pairwise (leK kf)):∀ (k:Nat) {o:List Keyed} {ia:Nat},MS kf la lb o ia ib→ia+k≤la.length→(∀ i x,i < k→la[ia+i]?=some x→∀ y∈lb.drop ib,leK kf x y)→MS kf la lb (o++(la.drop ia).take k) (ia+k) ib
 | 0,o,ia,h,_,_=>by rw [List.take_zero,List.append_nil]; exact h
 | k+1,o,ia,h,hl,hk=>by
  obtain ⟨x,hx⟩:∃ x,la[ia]?=some x:=⟨_,List.getElem?_eq_getElem (by omega)⟩
  have h1:=h.stepA hs hx (hk 0 x (by omega) hx)
  have h2:=MS.bulkA hs k h1 (by omega) fun i y hi e=>hk (i+1) y (by omega) (by rw [← e]; congr 1; omega)
  rw [drop_at hx,List.take_succ_cons]
  rw [List.append_assoc] at h2
  rw [show ia+(k+1)=ia+1+k by omega]
  exact h2
theorem MS.bulkB (hs:lb.Pairwise (leK kf)) {k:Nat} (h:MS kf la lb o ia ib) (hl:ib+k≤lb.length) (hk:∀ i x,i < k→lb[ib+i]?=some x→∀ y∈la.drop ia,leK kf x y):MS kf la lb (o++(lb.drop ib).take k) ia (ib+k) :=
 (MS.bulkA hs k h.swap hl hk).swap
def Merged (kf:Keyed→O.α) (la lb o:List Keyed):Prop:=o.Perm (la++lb)∧o.Pairwise (leK kf)
theorem MS.done (h:MS kf la lb o ia ib) (hs:la.Pairwise (leK kf)) (hb:ib=lb.length):Merged kf la lb (o++la.drop ia++lb.drop ib):=by
 subst hb
 rw [List.drop_length,List.append_nil]
 have hp:=h.perm
 rw [List.take_length] at hp
 refine ⟨?_,?_⟩
 ·refine (hp.append_right _).trans ?_
  rw [List.append_assoc]
  refine (List.Perm.append_left _ List.perm_append_comm).trans ?_
  rw [← List.append_assoc,List.take_append_drop]
 ·rw [List.pairwise_append]
  exact ⟨h.sorted,hs.drop,h.ra⟩
theorem MS.lastA (h:MS kf la lb o ia ib) (hsa:la.Pairwise (leK kf)) (hs:lb.Pairwise (leK kf)) (hl:∀ y∈lb.drop ib,∀ x∈la.drop ia,leK kf y x):Merged kf la lb (o++lb.drop ib++la.drop ia):=by
 refine ⟨?_,?_⟩
 ·have hp:=(h.perm.append_right (lb.drop ib)).append_right (la.drop ia)
  refine hp.trans ?_
  rw [List.append_assoc (la.take ia),List.take_append_drop,List.append_assoc]
  refine (List.Perm.append_left _ List.perm_append_comm).trans ?_
  rw [← List.append_assoc,List.take_append_drop]
 ·rw [List.pairwise_append]
  refine ⟨?_,hsa.drop,fun x hx y hy=>?_⟩
  ·rw [List.pairwise_append]
   exact ⟨h.sorted,hs.drop,h.rb⟩
  ·rcases List.mem_append.mp hx with q | q
   ·exact h.ra x q y hy
   ·exact hl x q y hy
end
noncomputable def mergeLo':Array Keyed→Array Keyed→StateT SortSt Sem (Array Keyed):=sortPriv% PySem.Builtin.mergeLo
noncomputable def setGal' (g:Nat):StateT SortSt Sem Unit:=modify fun s=>SortSt.mk' (kindOf s) (arrOf s) (pendingOf s) g (failedOf s)
noncomputable def doneLo (a b out:Array Keyed) (ia ib:Nat):Array Keyed:=out++a.extract ia a.size++b.extract ib b.size
noncomputable def lastLo (a b out:Array Keyed) (ia ib:Nat):Array Keyed:=out++b.extract ib b.size++a.extract ia a.size
abbrev T1:Type:=Option (Array Keyed)×Array Keyed×Nat×Nat×Nat×Nat
abbrev T2:Type:=Option (Array Keyed)×Array Keyed×Nat×Nat×Nat×Nat×Nat
noncomputable def loD (a b out:Array Keyed) (ia ib mg k k1:Nat):StateT SortSt Sem (ForInStep T2) :=
 elem' a ia >>= fun x =>
 if (ia+1+1 == a.size)=true then pure (.done (some (lastLo a b (out.push x) (ia+1) ib),out.push x,ia+1,ib,mg,k,k1))
 else if (decide (k < 7) && decide (k1 < 7))=true then pure (.done (none,out.push x,ia+1,ib,mg,k,k1))
 else pure (.yield (none,out.push x,ia+1,ib,mg,k,k1))
noncomputable def loC (a b out:Array Keyed) (ia ib mg k bc:Nat):StateT SortSt Sem (ForInStep T2) :=
 elem' b ib >>= fun y =>
 if (ib+1 == b.size)=true then pure (.done (some (doneLo a b (out.push y) ia (ib+1)),out.push y,ia,ib+1,mg,k,bc))
 else elem' a ia >>= fun x=>gallop' true x b (ib+1) (b.size - (ib+1)) 0 >>= fun r =>
  match r with
  | some k1=>(if k1 > 0 then
    (if (ib+1+k1 == b.size)=true then pure (.done (some (doneLo a b (out.push y++b.extract (ib+1) (ib+1+k1)) ia (ib+1+k1)),out.push y++b.extract (ib+1) (ib+1+k1),ia,ib+1+k1,mg,k,k1))
    else loD a b (out.push y++b.extract (ib+1) (ib+1+k1)) ia (ib+1+k1) mg k k1)
   else loD a b (out.push y) ia (ib+1) mg k k1)
  | _=>pure (.done (some (doneLo a b (out.push y) ia (ib+1)),out.push y,ia,ib+1,mg,k,bc))
noncomputable def loB (a b out:Array Keyed) (ia ib mg ac bc:Nat):StateT SortSt Sem (ForInStep T2) :=
 setGal' mg >>= fun _=>elem' b ib >>= fun y=>gallop' false y a ia (a.size - ia) 0 >>= fun r =>
 match r with
 | some k=>(if k > 0 then
   (if (ia+k+1 == a.size)=true then pure (.done (some (lastLo a b (out++a.extract ia (ia+k)) (ia+k) ib),out++a.extract ia (ia+k),ia+k,ib,mg,k,bc))
   else if (ia+k == a.size)=true then pure (.done (some (doneLo a b (out++a.extract ia (ia+k)) (ia+k) ib),out++a.extract ia (ia+k),ia+k,ib,mg,k,bc))
   else loC a b (out++a.extract ia (ia+k)) (ia+k) ib mg k bc)
  else loC a b out ia ib mg k bc)
 | _=>pure (.done (some (doneLo a b out ia ib),out,ia,ib,mg,ac,bc))
noncomputable def loA (a b out:Array Keyed) (ia ib ac bc mg:Nat):StateT SortSt Sem (ForInStep T1) :=
 elem' b ib >>= fun y=>elem' a ia >>= fun x=>lt' y x >>= fun r =>
 match r with
 | some bWins=>(if bWins=true then elem' b ib >>= fun y =>
   (if (ib+1 == b.size)=true then pure (.done (some (doneLo a b (out.push y) ia (ib+1)),out.push y,ia,ib+1,0,bc+1))
   else if bc+1 ≥ mg then pure (.done (none,out.push y,ia,ib+1,0,bc+1))
   else pure (.yield (none,out.push y,ia,ib+1,0,bc+1)))
  else elem' a ia >>= fun x =>
   (if (ia+1+1 == a.size)=true then pure (.done (some (lastLo a b (out.push x) (ia+1) ib),out.push x,ia+1,ib,ac+1,0))
   else if ac+1 ≥ mg then pure (.done (none,out.push x,ia+1,ib,ac+1,0))
   else pure (.yield (none,out.push x,ia+1,ib,ac+1,0))))
 | _=>pure (.done (some (doneLo a b out ia ib),out,ia,ib,ac,bc))
theorem mergeLo'_eq (a b:Array Keyed):mergeLo' a b=(do
 rule "list.sort.merge-lo"
 let y ← elem' b 0
 if (1 == b.size)=true then pure (doneLo a b #[y] 0 1)
 else if (0+1 == a.size)=true then pure (lastLo a b #[y] 0 1)
 else do
  let g ← get
  let r ← forIn [:a.size+b.size] ((none,#[y],0,1,gallopOf g):Option (Array Keyed)×Array Keyed×Nat×Nat×Nat) fun _ c=>do
   let r ← forIn [:a.size+b.size] ((none,c.2.1,c.2.2.1,c.2.2.2.1,0,0):T1) fun _ d=>loA a b d.2.1 d.2.2.1 d.2.2.2.1 d.2.2.2.2.1 d.2.2.2.2.2 c.2.2.2.2
   match r.1 with
   | some q=>pure (ForInStep.done (some q,r.2.1,r.2.2.1,r.2.2.2.1,c.2.2.2.2))
   | none=>do
    rule "list.sort.gallop"
    let t ← forIn [:a.size+b.size] ((none,r.2.1,r.2.2.1,r.2.2.2.1,c.2.2.2.2+1,r.2.2.2.2.1,r.2.2.2.2.2):T2) fun _ d =>
     if d.2.2.2.2.1 > 1 then loB a b d.2.1 d.2.2.1 d.2.2.2.1 (d.2.2.2.2.1 - 1) d.2.2.2.2.2.1 d.2.2.2.2.2.2 else loB a b d.2.1 d.2.2.1 d.2.2.2.1 d.2.2.2.2.1 d.2.2.2.2.2.1 d.2.2.2.2.2.2
    match t.1 with
    | some q=>pure (ForInStep.done (some q,t.2.1,t.2.2.1,t.2.2.2.1,t.2.2.2.2.1))
    | none=>do
     setGal' (t.2.2.2.2.1+1)
     pure (ForInStep.yield (none,t.2.1,t.2.2.1,t.2.2.2.1,t.2.2.2.2.1+1))
  match r.1 with
  | some q=>pure q
  | none=>unsupported "internal:list.sort.merge-bound"):=by
 show (_ >>= _)=(_ >>= _)
 refine congrArg _ (funext fun _=>?_)
 dsimp only
 refine congrArg _ (funext fun y=>?_)
 refine ite_congr rfl (fun _=>rfl) (fun _=>ite_congr rfl (fun _=>rfl) fun _=>?_)
 refine congrArg _ (funext fun g=>?_)
 refine congr (congrArg _ (congrArg _ (funext fun _=>funext fun c=>?_))) (funext fun r=>?_)
 ·refine congr (congrArg _ (congrArg _ (funext fun _=>funext fun d=>?_))) (funext fun r=>?_)
  ·rfl
  ·rcases r with ⟨_ | q,r⟩
   ·dsimp only
    refine congrArg _ (funext fun _=>?_)
    refine congr (congrArg _ (congrArg _ (funext fun _=>funext fun d=>?_))) (funext fun r=>?_)
    ·rfl
    ·rcases r with ⟨_ | q,r⟩ <;> rfl
   ·rfl
 ·rcases r with ⟨_ | q,r⟩
  ·dsimp only
  ·rfl
theorem ext_all {α:Type} (a:Array α) (i:Nat):(a.extract i a.size).toList=a.toList.drop i:=by
 rw [Array.toList_extract]
 simp [List.extract_eq_drop_take']
 rw [← Array.length_toList,List.take_length]
theorem ext_some {α:Type} (a:Array α) (i k:Nat):(a.extract i (i+k)).toList=(a.toList.drop i).take k:=by
 rw [Array.toList_extract]
 simp [List.extract_eq_drop_take]
theorem doneLo_list (a b out:Array Keyed) (ia ib:Nat):(doneLo a b out ia ib).toList=out.toList++a.toList.drop ia++b.toList.drop ib:=by
 unfold doneLo; rw [Array.toList_append,Array.toList_append,ext_all,ext_all]
theorem lastLo_list (a b out:Array Keyed) (ia ib:Nat):(lastLo a b out ia ib).toList=out.toList++b.toList.drop ib++a.toList.drop ia:=by
 unfold lastLo; rw [Array.toList_append,Array.toList_append,ext_all,ext_all]
section
variable {prog:Program} {w:World} {A:Around} {E:Value→Shared→Prop} {s:Shared} {κ:SortKind} {D:Keyed→Prop} {O:KeyOrd} {kf:Keyed→O.α} {a b out:Array Keyed} {ia ib:Nat} {st:SortSt}
def Good (st st':SortSt):Prop:=kindOf st'=kindOf st∧arrOf st'=arrOf st∧pendingOf st'=pendingOf st∧failedOf st'=failedOf st
structure Two (D:Keyed→Prop) (kf:Keyed→O.α) (a b:Array Keyed):Prop where
 da:∀ (i:Nat) x,a[i]?=some x→D x
 db:∀ (i:Nat) x,b[i]?=some x→D x
 sa:a.toList.Pairwise (leK kf)
 sb:b.toList.Pairwise (leK kf)
 last:∀ y∈b.toList,∀ x,a[a.size - 1]?=some x→ltK kf y x=true
theorem head_le {l:List Keyed} {i:Nat} {x z:Keyed} (hs:l.Pairwise (leK kf)) (e:l[i]?=some x) (h:leK kf z x):∀ y∈l.drop i,leK kf z y:=fun y hy=>by
 rw [drop_at e] at hy
 rcases List.mem_cons.mp hy with rfl | hy
 ·exact h
 ·exact KeyOrd.kle_trans h (sorted_drop hs e y hy)
def MI (kf:Keyed→O.α) (a b out:Array Keyed) (ia ib:Nat):Prop:=MS kf a.toList b.toList out.toList ia ib∧ia+1 < a.size∧ib < b.size
def MergedA (kf:Keyed→O.α) (a b r:Array Keyed):Prop:=Merged kf a.toList b.toList r.toList
theorem lastLo_ok (T:Two D kf a b) (h:MS kf a.toList b.toList out.toList ia ib) (hi:ia+1=a.size):MergedA kf a b (lastLo a b out ia ib):=by
 unfold MergedA
 rw [lastLo_list]
 refine h.lastA T.sa T.sb fun y hy x hx=>?_
 have hlt:ia < a.toList.length:=by rw [Array.length_toList]; omega
 rw [List.drop_eq_getElem_cons hlt,List.drop_eq_nil_of_le (by rw [Array.length_toList]; omega),List.mem_singleton] at hx
 refine KeyOrd.kle_of_klt (T.last y (List.mem_of_mem_drop hy) x ?_)
 rw [hx,show a.size - 1=ia by omega,← Array.getElem?_toList,List.getElem?_eq_getElem hlt]
theorem doneLo_ok (T:Two D kf a b) (h:MS kf a.toList b.toList out.toList ia ib) (hi:ib=b.size):MergedA kf a b (doneLo a b out ia ib):=by
 unfold MergedA
 rw [doneLo_list]
 exact h.done T.sa (by rw [Array.length_toList]; exact hi)
theorem wpS_elem {arr:Array Keyed} {i:Nat} (hi:i < arr.size) {Q:Keyed→SortSt→Prop} (h:∀ x,arr[i]?=some x→arr.toList[i]?=some x→Q x st):wpS (model prog w) A E s (elem' arr i) Q st:=by
 rw [elem'_eq]
 have e:arr[i]?=some arr[i]:=getElem?_pos arr i hi
 rw [e]
 exact wpS_pure (h _ e (by rw [Array.getElem?_toList]; exact e))
def P2 (kf:Keyed→O.α) (st:SortSt) (a b:Array Keyed) (c0:Nat) (c:T2) (st':SortSt):Prop:=Good st st'∧((∃ r,c.1=some r∧MergedA kf a b r)∨(c.1=none∧MI kf a b c.2.1 c.2.2.1 c.2.2.2.1∧c0≤c.2.2.1+c.2.2.2.1))
def Y2 (kf:Keyed→O.α) (st:SortSt) (a b:Array Keyed) (c0:Nat) (c:T2) (st':SortSt):Prop:=Good st st'∧c.1=none∧MI kf a b c.2.1 c.2.2.1 c.2.2.2.1∧c0≤c.2.2.1+c.2.2.2.1
def R2' (kf:Keyed→O.α) (st:SortSt) (a b:Array Keyed) (c0:Nat) (r:ForInStep T2) (st':SortSt):Prop:=match r with | .done c'=>P2 kf st a b c0 c' st' | .yield c'=>Y2 kf st a b c0 c' st'
variable {c0 mg k k1 bc ac:Nat} {st':SortSt}
theorem wpS_loD (T:Two D kf a b) (g:Good st st') (h:MI kf a b out ia ib) (hx:∀ x,a.toList[ia]?=some x→∀ y∈b.toList.drop ib,leK kf x y) (hc0:c0≤ia+ib):wpS (model prog w) A E s (loD a b out ia ib mg k k1) (R2' kf st a b c0) st':=by
 unfold loD
 refine wpS_bind (wpS_elem (by have:=h.2.1; omega) fun x e1 e2=>?_)
 have hm:=h.1.stepA T.sa e2 (hx x e2)
 rw [← Array.toList_push] at hm
 split
 ·rename_i e
  exact wpS_pure ⟨g,.inl ⟨_,rfl,lastLo_ok T hm (eq_of_beq e)⟩⟩
 ·rename_i e
  have e:¬ ia+1+1=a.size:=fun z=>e (beq_iff_eq.mpr z)
  have hq:MI kf a b (out.push x) (ia+1) ib:=⟨hm,by have:=h.2.1; omega,h.2.2⟩
  split
  ·exact wpS_pure ⟨g,.inr ⟨rfl,hq,by show c0≤ia+1+ib; omega⟩⟩
  ·exact wpS_pure ⟨g,rfl,hq,by show c0≤ia+1+ib; omega⟩
theorem gdK (a:Array Keyed) {i:Nat} (hi:i < a.size):a[i]?=some (a.getD i (Value.none,Value.none)):=by
 rw [Array.getD_eq_getD_getElem?,getElem?_pos a i hi]; rfl
theorem pair_le {l:List Keyed} (hs:l.Pairwise (leK kf)) {i j:Nat} {x y:Keyed} (hij:i≤j) (ex:l[i]?=some x) (ey:l[j]?=some y):leK kf x y:=by
 by_cases e:i=j
 ·subst e
  rw [ex] at ey
  cases ey
  exact KeyOrd.kle_refl _
 ·refine sorted_drop hs ex y ?_
  have:(l.drop (i+1))[j - (i+1)]?=some y:=by rw [List.getElem?_drop,← ey]; congr 1; omega
  exact List.mem_of_getElem? this
theorem wpS_loC (T:Two D kf a b) (hcm:Cmp prog w A s κ D (ltK kf)) (hk:kindOf st=κ) (g:Good st st') (h:MI kf a b out ia ib) (hy:∀ y,b.toList[ib]?=some y→∀ x∈a.toList.drop ia,leK kf y x) (hc0:c0≤ia+ib):wpS (model prog w) A E s (loC a b out ia ib mg k bc) (R2' kf st a b c0) st':=by
 unfold loC
 obtain ⟨hms,hia,hib⟩:=h
 refine wpS_bind (wpS_elem hib fun y e1 e2=>?_)
 have hm:=hms.stepB T.sb e2 (hy y e2)
 rw [← Array.toList_push] at hm
 split
 ·rename_i e
  exact wpS_pure ⟨g,.inl ⟨_,rfl,doneLo_ok T hm (eq_of_beq e)⟩⟩
 ·rename_i e
  have e:¬ ib+1=b.size:=fun z=>e (beq_iff_eq.mpr z)
  refine wpS_bind (wpS_elem (by omega) fun x f1 f2=>?_)
  refine wpS_bind (wpS_gallop hcm (g.1.trans hk) (T.da _ _ f1) (fun i=>ltK kf (b.getD (ib+1+i) (Value.none,Value.none)) x) (fun i hi=>⟨_,gdK b (by omega),T.db _ _ (gdK b (by omega)),rfl⟩) (fun i j hij hj hb=>?_) (by omega) fun k1 q1 q2 q3=>?_)
  ·refine KeyOrd.klt_of_kle_of_klt (pair_le T.sb (i:=ib+1+i) (j:=ib+1+j) (by omega) ?_ ?_) hb
   ·rw [Array.getElem?_toList]; exact gdK b (by omega)
   ·rw [Array.getElem?_toList]; exact gdK b (by omega)
  ·dsimp only
   have hrest:∀ (ib':Nat),ib'=ib+1+k1→ib' < b.size→∀ x',a.toList[ia]?=some x'→∀ y∈b.toList.drop ib',leK kf x' y:=fun ib' e1 e2 x' ex'=>by
    rw [f2] at ex'
    cases ex'
    have hb0:b.toList[ib']?=some (b.getD ib' (Value.none,Value.none)):=by rw [Array.getElem?_toList]; exact gdK b e2
    refine head_le T.sb hb0 ?_
    have:=q3 k1 (Nat.le_refl _) (by omega)
    rw [← e1] at this
    exact this
   split
   ·have hbk:=MS.bulkB T.sb (k:=k1) hm (by rw [Array.length_toList]; omega) fun i z hi ez=>by
     refine head_le T.sa f2 ?_
     have:=q2 i hi
     rw [Array.getElem?_toList,gdK b (by omega)] at ez
     cases ez
     exact KeyOrd.kle_of_klt this
    rw [← ext_some,← Array.toList_append] at hbk
    split
    ·rename_i e3
     exact wpS_pure ⟨g,.inl ⟨_,rfl,doneLo_ok T hbk (eq_of_beq e3)⟩⟩
    ·rename_i e3
     have e3:¬ ib+1+k1=b.size:=fun z=>e3 (beq_iff_eq.mpr z)
     exact wpS_loD T g ⟨hbk,hia,by omega⟩ (hrest _ rfl (by omega)) (by omega)
   ·exact wpS_loD T g ⟨hm,hia,by omega⟩ (hrest _ (by omega) (by omega)) (by omega)
theorem wpS_setGal {Q:Unit→SortSt→Prop} (h:∀ st2,Good st' st2→Q () st2):wpS (model prog w) A E s (setGal' mg) Q st':=by
 unfold setGal'
 exact wpS_modify (h _ ⟨rfl,rfl,rfl,rfl⟩)
theorem Good.trans {st st' st2:SortSt} (h:Good st st') (h2:Good st' st2):Good st st2:=⟨h2.1.trans h.1,h2.2.1.trans h.2.1,h2.2.2.1.trans h.2.2.1,h2.2.2.2.trans h.2.2.2⟩
theorem wpS_loB (T:Two D kf a b) (hcm:Cmp prog w A s κ D (ltK kf)) (hk:kindOf st=κ) (g:Good st st') (h:MI kf a b out ia ib) (hc0:c0≤ia+ib):wpS (model prog w) A E s (loB a b out ia ib mg ac bc) (R2' kf st a b c0) st':=by
 unfold loB
 obtain ⟨hms,hia,hib⟩:=h
 refine wpS_bind (wpS_setGal fun st2 g2=>?_)
 have g:=g.trans g2
 refine wpS_bind (wpS_elem hib fun y e1 e2=>?_)
 refine wpS_bind (wpS_gallop hcm (g.1.trans hk) (T.db _ _ e1) (fun i=>!(ltK kf y (a.getD (ia+i) (Value.none,Value.none)))) (fun i hi=>⟨_,gdK a (by omega),T.da _ _ (gdK a (by omega)),rfl⟩) (fun i j hij hj hb=>?_) (by omega) fun k q1 q2 q3=>?_)
 ·have hle:leK kf (a.getD (ia+j) (Value.none,Value.none)) y:=by
   unfold leK KeyOrd.kle
   unfold ltK at hb
   simpa using hb
  have:=KeyOrd.kle_trans (pair_le T.sa (i:=ia+i) (j:=ia+j) (by omega) (by rw [Array.getElem?_toList]; exact gdK a (by omega)) (by rw [Array.getElem?_toList]; exact gdK a (by omega))) hle
  unfold KeyOrd.kle at this
  unfold ltK
  rw [this]
  rfl
 ·dsimp only
  have hlast:ltK kf y (a.getD (a.size - 1) (Value.none,Value.none))=true:=T.last y (List.mem_of_getElem? e2) _ (gdK a (by omega))
  have hkl:ia+k < a.size:=by
   refine Nat.lt_of_not_le fun hge=>?_
   have:=q2 (a.size - 1 - ia) (by omega)
   rw [show ia+(a.size - 1 - ia)=a.size - 1 by omega,hlast] at this
   cases this
  have hrest:∀ ia',ia'=ia+k→∀ y',b.toList[ib]?=some y'→∀ x∈a.toList.drop ia',leK kf y' x:=fun ia' e y' ey=>by
   rw [e2] at ey
   cases ey
   have ha0:a.toList[ia']?=some (a.getD ia' (Value.none,Value.none)):=by rw [Array.getElem?_toList]; exact gdK a (by omega)
   refine head_le T.sa ha0 ?_
   have:=q3 k (Nat.le_refl _) (by omega)
   rw [← e] at this
   refine KeyOrd.kle_of_klt ?_
   unfold KeyOrd.klt
   unfold ltK at this
   simpa using this
  split
  ·have hbk:=MS.bulkA T.sa k hms (by rw [Array.length_toList]; omega) fun i z hi ez=>by
    refine head_le T.sb e2 ?_
    have:=q2 i hi
    rw [Array.getElem?_toList,gdK a (by omega)] at ez
    cases ez
    unfold leK KeyOrd.kle
    unfold ltK at this
    simpa using this
   rw [← ext_some,← Array.toList_append] at hbk
   split
   ·rename_i e3
    exact wpS_pure ⟨g,.inl ⟨_,rfl,lastLo_ok T hbk (eq_of_beq e3)⟩⟩
   ·rename_i e3
    have e3:¬ ia+k+1=a.size:=fun z=>e3 (beq_iff_eq.mpr z)
    split
    ·rename_i e4
     have e4:=eq_of_beq e4
     omega
    ·exact wpS_loC T hcm hk g ⟨hbk,by omega,hib⟩ (hrest _ rfl) (by omega)
  ·exact wpS_loC T hcm hk g ⟨hms,hia,hib⟩ (hrest _ (by omega)) hc0
def P1 (kf:Keyed→O.α) (st:SortSt) (a b:Array Keyed) (c0:Nat) (c:T1) (st':SortSt):Prop:=Good st st'∧((∃ r,c.1=some r∧MergedA kf a b r)∨(c.1=none∧MI kf a b c.2.1 c.2.2.1 c.2.2.2.1∧c0≤c.2.2.1+c.2.2.2.1))
def Y1 (kf:Keyed→O.α) (st:SortSt) (a b:Array Keyed) (c0:Nat) (c:T1) (st':SortSt):Prop:=Good st st'∧c.1=none∧MI kf a b c.2.1 c.2.2.1 c.2.2.2.1∧c0≤c.2.2.1+c.2.2.2.1
def R1' (kf:Keyed→O.α) (st:SortSt) (a b:Array Keyed) (c0:Nat) (r:ForInStep T1) (st':SortSt):Prop:=match r with | .done c'=>P1 kf st a b c0 c' st' | .yield c'=>Y1 kf st a b c0 c' st'
theorem wpS_loA (T:Two D kf a b) (hcm:Cmp prog w A s κ D (ltK kf)) (hk:kindOf st=κ) (g:Good st st') (h:MI kf a b out ia ib) (hc0:c0≤ia+ib):wpS (model prog w) A E s (loA a b out ia ib ac bc mg) (R1' kf st a b (c0+1)) st':=by
 unfold loA
 obtain ⟨hms,hia,hib⟩:=h
 refine wpS_bind (wpS_elem hib fun y e1 e2=>?_)
 refine wpS_bind (wpS_elem (by omega) fun x f1 f2=>?_)
 refine wpS_bind (wpS_cmp hcm (g.1.trans hk) (T.db _ _ e1) (T.da _ _ f1) ?_)
 dsimp only
 cases hb:ltK kf y x with
 | true =>
  rw [if_pos rfl]
  refine wpS_bind (wpS_elem hib fun y' e1' e2'=>?_)
  rw [e2] at e2'
  cases e2'
  have hm:=hms.stepB T.sb e2 (head_le T.sa f2 (KeyOrd.kle_of_klt hb))
  rw [← Array.toList_push] at hm
  split
  ·rename_i e
   exact wpS_pure ⟨g,.inl ⟨_,rfl,doneLo_ok T hm (eq_of_beq e)⟩⟩
  ·rename_i e
   have e:¬ ib+1=b.size:=fun z=>e (beq_iff_eq.mpr z)
   have hq:MI kf a b (out.push y) ia (ib+1):=⟨hm,hia,by omega⟩
   split
   ·exact wpS_pure ⟨g,.inr ⟨rfl,hq,by show c0+1≤ia+(ib+1); omega⟩⟩
   ·exact wpS_pure ⟨g,rfl,hq,by show c0+1≤ia+(ib+1); omega⟩
 | false =>
  rw [if_neg (by simp)]
  refine wpS_bind (wpS_elem (by omega) fun x' e1' e2'=>?_)
  rw [f2] at e2'
  cases e2'
  have hm:=hms.stepA T.sa f2 (head_le T.sb e2 hb)
  rw [← Array.toList_push] at hm
  split
  ·rename_i e
   exact wpS_pure ⟨g,.inl ⟨_,rfl,lastLo_ok T hm (eq_of_beq e)⟩⟩
  ·rename_i e
   have e:¬ ia+1+1=a.size:=fun z=>e (beq_iff_eq.mpr z)
   have hq:MI kf a b (out.push x) (ia+1) ib:=⟨hm,by omega,hib⟩
   split
   ·exact wpS_pure ⟨g,.inr ⟨rfl,hq,by show c0+1≤ia+1+ib; omega⟩⟩
   ·exact wpS_pure ⟨g,rfl,hq,by show c0+1≤ia+1+ib; omega⟩
theorem wpS_rule {n:String} {Q:Unit→SortSt→Prop} (h:Q () st):wpS (model prog w) A E s (liftM (rule n):StateT SortSt Sem Unit) Q st:=wpS_lift (wpAny_rule ⟨rfl,h⟩)
theorem wpS_mergeLo (T:Two D kf a b) (hcm:Cmp prog w A s κ D (ltK kf)) (hk:kindOf st=κ) (ha:0 < a.size) (hb:0 < b.size) (h0:∀ y,b.toList[0]?=some y→∀ x∈a.toList,leK kf y x) {Q:Array Keyed→SortSt→Prop}
  (q:∀ r st',MergedA kf a b r→Good st st'→Q r st'):wpS (model prog w) A E s (mergeLo' a b) Q st:=by
 rw [mergeLo'_eq]
 refine wpS_bind (wpS_rule ?_)
 refine wpS_bind (wpS_elem hb fun y e1 e2=>?_)
 have hm0:MS kf a.toList b.toList (#[y]:Array Keyed).toList 0 1:=by
  have z:MS kf a.toList b.toList [] 0 0:=⟨.nil,.nil,(fun _ h=>nomatch h),fun _ h=>nomatch h⟩
  exact z.stepB T.sb e2 (fun x hx=>h0 y e2 x hx)
 have gr:Good st st:=⟨rfl,rfl,rfl,rfl⟩
 split
 ·rename_i e
  exact wpS_pure (q _ _ (doneLo_ok T hm0 (eq_of_beq e)) gr)
 ·rename_i e
  have e:¬ 1=b.size:=fun z=>e (beq_iff_eq.mpr z)
  split
  ·rename_i e'
   exact wpS_pure (q _ _ (lastLo_ok T hm0 (eq_of_beq e')) gr)
  ·rename_i e'
   have e':¬ 0+1=a.size:=fun z=>e' (beq_iff_eq.mpr z)
   refine wpS_bind (wpS_get ?_)
   refine wpS_bind (wpS_mono (wpS_forRange (I:=fun x c st'=>Good st st'∧c.1=none∧MI kf a b c.2.1 c.2.2.1 c.2.2.2.1∧x+1≤c.2.2.1+c.2.2.2.1)
    (Q:=fun c st'=>Good st st'∧∃ r,c.1=some r∧MergedA kf a b r) ?step ?fin ⟨gr,rfl,⟨hm0,by show 0+1 < a.size; omega,by show 1 < b.size; omega⟩,Nat.le_refl _⟩) ?post)
   case post =>
    rintro c st' ⟨g,r,e1,e2⟩
    obtain ⟨c1,c2⟩:=c
    dsimp only at e1
    subst e1
    exact wpS_pure (q _ _ e2 g)
   case fin =>
    rintro c st' ⟨g,e1,⟨_,h1,h2⟩,h3⟩
    exfalso
    omega
   case step =>
    rintro x c st1 _ hx ⟨g,e1,hMI,hx2⟩
    refine wpS_bind (wpS_mono (wpS_forRange (I:=fun z d st'=>Y1 kf st a b (x+1+min z 1) d st') (Q:=fun d st'=>P1 kf st a b (x+2) d st') ?s1 ?f1 ⟨g,rfl,hMI,by show x+1+min 0 1≤c.2.2.1+c.2.2.2.1; omega⟩) ?p1)
    case f1 =>
     rintro d st' ⟨g,e1,h1,h2⟩
     exact ⟨g,.inr ⟨e1,h1,by omega⟩⟩
    case s1 =>
     rintro z d st' _ hz ⟨g,e1,h1,h2⟩
     refine wpS_mono (wpS_loA T hcm hk g h1 (c0:=x+1) (by omega)) fun r st2 hr=>?_
     cases r with
     | done c'=>exact hr
     | «yield» c'=>exact ⟨hr.1,hr.2.1,hr.2.2.1,by have:=hr.2.2.2; omega⟩
    case p1 =>
     rintro d st' ⟨g,hd⟩
     obtain ⟨d1,d2⟩:=d
     rcases hd with ⟨r,e1,e2⟩ | ⟨e1,h1,h2⟩
     ·dsimp only at e1
      subst e1
      exact wpS_pure ⟨g,r,rfl,e2⟩
     ·dsimp only at e1
      subst e1
      refine wpS_bind (wpS_rule ?_)
      refine wpS_bind (wpS_mono (wpS_forRange (I:=fun z d st'=>Y2 kf st a b (x+2) d st') (Q:=fun d st'=>P2 kf st a b (x+2) d st') ?s2 ?f2 ⟨g,rfl,h1,h2⟩) ?p2)
      case f2 =>
       rintro d st' ⟨g,e1,h1,h2⟩
       exact ⟨g,.inr ⟨e1,h1,h2⟩⟩
      case s2 =>
       rintro z d st' _ hz ⟨g,e1,h1,h2⟩
       split
       ·refine wpS_mono (wpS_loB T hcm hk g h1 h2) fun r st2 hr=>?_
        cases r <;> exact hr
       ·refine wpS_mono (wpS_loB T hcm hk g h1 h2) fun r st2 hr=>?_
        cases r <;> exact hr
      case p2 =>
       rintro d st' ⟨g,hd⟩
       obtain ⟨d1,d2⟩:=d
       rcases hd with ⟨r,e1,e2⟩ | ⟨e1,h1,h2⟩
       ·dsimp only at e1
        subst e1
        exact wpS_pure ⟨g,r,rfl,e2⟩
       ·dsimp only at e1
        subst e1
        refine wpS_bind (wpS_setGal fun st3 g3=>?_)
        exact wpS_pure ⟨g.trans g3,rfl,h1,h2⟩
end
section
variable {O:KeyOrd} {kf:Keyed→O.α} {la lb o:List Keyed} {na nb:Nat}
structure MH (kf:Keyed→O.α) (la lb o:List Keyed) (na nb:Nat):Prop where
 perm:o.Perm (la.drop na++lb.drop nb)
 sorted:o.Pairwise (leK kf)
 ra:∀ x∈la.take na,∀ y∈o,leK kf x y
 rb:∀ x∈lb.take nb,∀ y∈o,leK kf x y
theorem sorted_take {l:List Keyed} {i:Nat} {x:Keyed} (hs:l.Pairwise (leK kf)) (h:l[i]?=some x):∀ y∈l.take i,leK kf y x:=fun y hy=>by
 have:=hs.take (i:=i+1)
 rw [take_at h,List.pairwise_append] at this
 exact this.2.2 y hy x (List.mem_singleton.mpr rfl)
theorem MH.stepA {x:Keyed} (h:MH kf la lb o (na+1) nb) (hs:la.Pairwise (leK kf)) (e:la[na]?=some x) (hb:∀ y∈lb.take nb,leK kf y x):MH kf la lb (x::o) na nb:=by
 have hx:x∈la.take (na+1):=by rw [take_at e]; exact List.mem_append_right _ (List.mem_singleton.mpr rfl)
 refine ⟨?_,?_,fun z hz y hy=>?_,fun z hz y hy=>?_⟩
 ·rw [drop_at e,List.cons_append]
  exact h.perm.cons x
 ·rw [List.pairwise_cons]
  exact ⟨fun y hy=>h.ra x hx y hy,h.sorted⟩
 ·rcases List.mem_cons.mp hy with rfl | hy
  ·exact sorted_take hs e z hz
  ·exact h.ra z (by rw [take_at e]; exact List.mem_append_left _ hz) y hy
 ·rcases List.mem_cons.mp hy with rfl | hy
  ·exact hb z hz
  ·exact h.rb z hz y hy
theorem MH.swap (h:MH kf la lb o na nb):MH kf lb la o nb na:=⟨h.perm.trans List.perm_append_comm,h.sorted,h.rb,h.ra⟩
theorem MH.stepB {x:Keyed} (h:MH kf la lb o na (nb+1)) (hs:lb.Pairwise (leK kf)) (e:lb[nb]?=some x) (ha:∀ y∈la.take na,leK kf y x):MH kf la lb (x::o) na nb:=(h.swap.stepA hs e ha).swap
theorem MH.bulkA (hs:la.Pairwise (leK kf)) {at_:Nat}:∀ (k:Nat) {o:List Keyed},MH kf la lb o (at_+k) nb→at_+k≤la.length→(∀ i x,at_≤i→i < at_+k→la[i]?=some x→∀ y∈lb.take nb,leK kf y x)→MH kf la lb ((la.take (at_+k)).drop at_++o) at_ nb
 | 0,o,h,hl,_=>by
  rw [Nat.add_zero,List.drop_eq_nil_of_le (by rw [List.length_take]; omega),List.nil_append]
  exact h
 | k+1,o,h,hl,hk=>by
  obtain ⟨x,hx⟩:∃ x,la[at_+k]?=some x:=⟨_,List.getElem?_eq_getElem (by omega)⟩
  have h1:=MH.stepA (na:=at_+k) h hs hx (hk _ x (by omega) (by omega) hx)
  have h2:=MH.bulkA hs k h1 (by omega) fun i y h1 h2 e=>hk i y h1 (by omega) e
  rw [show at_+(k+1)=at_+k+1 by omega,take_at hx,List.drop_append_of_le_length (by rw [List.length_take]; omega),List.append_assoc]
  exact h2
theorem MH.bulkB (hs:lb.Pairwise (leK kf)) {at_ k:Nat} (h:MH kf la lb o na (at_+k)) (hl:at_+k≤lb.length) (hk:∀ i x,at_≤i→i < at_+k→lb[i]?=some x→∀ y∈la.take na,leK kf y x):MH kf la lb ((lb.take (at_+k)).drop at_++o) na at_ :=
 (MH.bulkA hs k h.swap hl hk).swap
theorem MH.done (h:MH kf la lb o 0 nb) (hs:lb.Pairwise (leK kf)):Merged kf la lb (la.take 0++lb.take nb++o):=by
 rw [List.take_zero,List.nil_append]
 have hp:=h.perm
 rw [List.drop_zero] at hp
 refine ⟨?_,?_⟩
 ·refine (List.Perm.append_left _ hp).trans ?_
  rw [← List.append_assoc]
  refine (List.Perm.append_right _ List.perm_append_comm).trans ?_
  rw [List.append_assoc,List.take_append_drop]
 ·rw [List.pairwise_append]
  exact ⟨hs.take,h.sorted,h.rb⟩
theorem MH.firstB (h:MH kf la lb o na nb) (hsa:la.Pairwise (leK kf)) (hs:lb.Pairwise (leK kf)) (hl:∀ y∈lb.take nb,∀ x∈la.take na,leK kf y x):Merged kf la lb (lb.take nb++la.take na++o):=by
 refine ⟨?_,?_⟩
 ·refine (List.Perm.append_left _ h.perm).trans ?_
  rw [List.append_assoc,← List.append_assoc (la.take na),List.take_append_drop]
  refine List.perm_append_comm.trans ?_
  rw [List.append_assoc]
  refine List.Perm.append_left _ (List.perm_append_comm.trans ?_)
  rw [List.take_append_drop]
 ·rw [List.pairwise_append]
  refine ⟨?_,h.sorted,fun x hx y hy=>?_⟩
  ·rw [List.pairwise_append]
   exact ⟨hs.take,hsa.take,hl⟩
  ·rcases List.mem_append.mp hx with q | q
   ·exact h.rb x q y hy
   ·exact h.ra x q y hy
end
noncomputable def mergeHi':Array Keyed→Array Keyed→StateT SortSt Sem (Array Keyed):=sortPriv% PySem.Builtin.mergeHi
noncomputable def doneHi (a b out:Array Keyed) (na nb:Nat):Array Keyed:=a.extract 0 na++b.extract 0 nb++out.reverse
noncomputable def firstHi (a b out:Array Keyed) (na nb:Nat):Array Keyed:=b.extract 0 nb++a.extract 0 na++out.reverse
abbrev U1:Type:=Option (Array Keyed)×Nat×Nat×Array Keyed×Nat×Nat
abbrev U2:Type:=Option (Array Keyed)×Nat×Nat×Array Keyed×Nat×Nat×Nat
noncomputable def hiD (a b:Array Keyed) (na nb:Nat) (out:Array Keyed) (mg k k1:Nat):StateT SortSt Sem (ForInStep U2) :=
 elem' a (na - 1) >>= fun x =>
 if (na - 1 == 0)=true then pure (.done (some (doneHi a b (out.push x) (na - 1) nb),na - 1,nb,out.push x,mg,k,k1))
 else if (decide (k < 7) && decide (k1 < 7))=true then pure (.done (none,na - 1,nb,out.push x,mg,k,k1))
 else pure (.yield (none,na - 1,nb,out.push x,mg,k,k1))
noncomputable def hiC (a b:Array Keyed) (na nb:Nat) (out:Array Keyed) (mg k bc:Nat):StateT SortSt Sem (ForInStep U2) :=
 elem' b (nb - 1) >>= fun y =>
 if (nb - 1 == 1)=true then pure (.done (some (firstHi a b (out.push y) na (nb - 1)),na,nb - 1,out.push y,mg,k,bc))
 else elem' a (na - 1) >>= fun x=>gallop' true x b 0 (nb - 1) (nb - 1 - 1) >>= fun r =>
  match r with
  | some at_=>(if nb - 1 - at_ > 0 then
    (if (at_ == 1)=true then pure (.done (some (firstHi a b (out.push y++(b.extract at_ (nb - 1)).reverse) na at_),na,at_,out.push y++(b.extract at_ (nb - 1)).reverse,mg,k,nb - 1 - at_))
    else if (at_ == 0)=true then pure (.done (some (doneHi a b (out.push y++(b.extract at_ (nb - 1)).reverse) na at_),na,at_,out.push y++(b.extract at_ (nb - 1)).reverse,mg,k,nb - 1 - at_))
    else hiD a b na at_ (out.push y++(b.extract at_ (nb - 1)).reverse) mg k (nb - 1 - at_))
   else hiD a b na (nb - 1) (out.push y) mg k (nb - 1 - at_))
  | _=>pure (.done (some (doneHi a b (out.push y) na (nb - 1)),na,nb - 1,out.push y,mg,k,bc))
noncomputable def hiB (a b:Array Keyed) (na nb:Nat) (out:Array Keyed) (mg ac bc:Nat):StateT SortSt Sem (ForInStep U2) :=
 setGal' mg >>= fun _=>elem' b (nb - 1) >>= fun y=>gallop' false y a 0 na (na - 1) >>= fun r =>
 match r with
 | some at_=>(if na - at_ > 0 then
   (if (at_ == 0)=true then pure (.done (some (doneHi a b (out++(a.extract at_ na).reverse) at_ nb),at_,nb,out++(a.extract at_ na).reverse,mg,na - at_,bc))
   else hiC a b at_ nb (out++(a.extract at_ na).reverse) mg (na - at_) bc)
  else hiC a b na nb out mg (na - at_) bc)
 | _=>pure (.done (some (doneHi a b out na nb),na,nb,out,mg,ac,bc))
noncomputable def hiA (a b:Array Keyed) (na nb:Nat) (out:Array Keyed) (ac bc mg:Nat):StateT SortSt Sem (ForInStep U1) :=
 elem' b (nb - 1) >>= fun y=>elem' a (na - 1) >>= fun x=>lt' y x >>= fun r =>
 match r with
 | some aWins=>(if aWins=true then elem' a (na - 1) >>= fun x =>
   (if (na - 1 == 0)=true then pure (.done (some (doneHi a b (out.push x) (na - 1) nb),na - 1,nb,out.push x,ac+1,0))
   else if ac+1 ≥ mg then pure (.done (none,na - 1,nb,out.push x,ac+1,0))
   else pure (.yield (none,na - 1,nb,out.push x,ac+1,0)))
  else elem' b (nb - 1) >>= fun y =>
   (if (nb - 1 == 1)=true then pure (.done (some (firstHi a b (out.push y) na (nb - 1)),na,nb - 1,out.push y,0,bc+1))
   else if bc+1 ≥ mg then pure (.done (none,na,nb - 1,out.push y,0,bc+1))
   else pure (.yield (none,na,nb - 1,out.push y,0,bc+1))))
 | _=>pure (.done (some (doneHi a b out na nb),na,nb,out,ac,bc))
theorem mergeHi'_eq (a b:Array Keyed):mergeHi' a b=(do
 rule "list.sort.merge-hi"
 let y ← elem' a (a.size - 1)
 if (a.size - 1 == 0)=true then pure (doneHi a b #[y] (a.size - 1) b.size)
 else if (b.size == 1)=true then pure (firstHi a b #[y] (a.size - 1) b.size)
 else do
  let g ← get
  let r ← forIn [:a.size+b.size] ((none,a.size - 1,b.size,#[y],gallopOf g):Option (Array Keyed)×Nat×Nat×Array Keyed×Nat) fun _ c=>do
   let r ← forIn [:a.size+b.size] ((none,c.2.1,c.2.2.1,c.2.2.2.1,0,0):U1) fun _ d=>hiA a b d.2.1 d.2.2.1 d.2.2.2.1 d.2.2.2.2.1 d.2.2.2.2.2 c.2.2.2.2
   match r.1 with
   | some q=>pure (ForInStep.done (some q,r.2.1,r.2.2.1,r.2.2.2.1,c.2.2.2.2))
   | none=>do
    rule "list.sort.gallop"
    let t ← forIn [:a.size+b.size] ((none,r.2.1,r.2.2.1,r.2.2.2.1,c.2.2.2.2+1,r.2.2.2.2.1,r.2.2.2.2.2):U2) fun _ d =>
     if d.2.2.2.2.1 > 1 then hiB a b d.2.1 d.2.2.1 d.2.2.2.1 (d.2.2.2.2.1 - 1) d.2.2.2.2.2.1 d.2.2.2.2.2.2 else hiB a b d.2.1 d.2.2.1 d.2.2.2.1 d.2.2.2.2.1 d.2.2.2.2.2.1 d.2.2.2.2.2.2
    match t.1 with
    | some q=>pure (ForInStep.done (some q,t.2.1,t.2.2.1,t.2.2.2.1,t.2.2.2.2.1))
    | none=>do
     setGal' (t.2.2.2.2.1+1)
     pure (ForInStep.yield (none,t.2.1,t.2.2.1,t.2.2.2.1,t.2.2.2.2.1+1))
  match r.1 with
  | some q=>pure q
  | none=>unsupported "internal:list.sort.merge-bound"):=by
 show (_ >>= _)=(_ >>= _)
 refine congrArg _ (funext fun _=>?_)
 dsimp only
 refine congrArg _ (funext fun y=>?_)
 refine ite_congr rfl (fun _=>rfl) (fun _=>ite_congr rfl (fun _=>rfl) fun _=>?_)
 refine congrArg _ (funext fun g=>?_)
 refine congr (congrArg _ (congrArg _ (funext fun _=>funext fun c=>?_))) (funext fun r=>?_)
 ·refine congr (congrArg _ (congrArg _ (funext fun _=>funext fun d=>?_))) (funext fun r=>?_)
  ·rfl
  ·rcases r with ⟨_ | q,r⟩
   ·dsimp only
    refine congrArg _ (funext fun _=>?_)
    refine congr (congrArg _ (congrArg _ (funext fun _=>funext fun d=>?_))) (funext fun r=>?_)
    ·rfl
    ·rcases r with ⟨_ | q,r⟩ <;> rfl
   ·rfl
 ·rcases r with ⟨_ | q,r⟩
  ·dsimp only
  ·rfl
theorem ext_to {α:Type} (a:Array α) (i n:Nat):(a.extract i n).toList=(a.toList.take n).drop i:=by
 rw [Array.toList_extract]
 simp [List.extract_eq_drop_take']
theorem doneHi_list (a b out:Array Keyed) (na nb:Nat):(doneHi a b out na nb).toList=a.toList.take na++b.toList.take nb++out.toList.reverse:=by
 unfold doneHi; rw [Array.toList_append,Array.toList_append,ext_to,ext_to,Array.toList_reverse,List.drop_zero,List.drop_zero]
theorem firstHi_list (a b out:Array Keyed) (na nb:Nat):(firstHi a b out na nb).toList=b.toList.take nb++a.toList.take na++out.toList.reverse:=by
 unfold firstHi; rw [Array.toList_append,Array.toList_append,ext_to,ext_to,Array.toList_reverse,List.drop_zero,List.drop_zero]
theorem push_rev (out:Array Keyed) (x:Keyed):(out.push x).toList.reverse=x::out.toList.reverse:=by
 rw [Array.toList_push,List.reverse_append]; rfl
theorem app_rev (out a:Array Keyed) (i n:Nat):(out++(a.extract i n).reverse).toList.reverse=(a.toList.take n).drop i++out.toList.reverse:=by
 rw [Array.toList_append,List.reverse_append,Array.toList_reverse,List.reverse_reverse,ext_to]
section
variable {prog:Program} {w:World} {A:Around} {E:Value→Shared→Prop} {s:Shared} {κ:SortKind} {D:Keyed→Prop} {O:KeyOrd} {kf:Keyed→O.α} {a b out:Array Keyed} {na nb:Nat} {st:SortSt}
def First (kf:Keyed→O.α) (a b:Array Keyed):Prop:=∀ y,b.toList[0]?=some y→∀ x∈a.toList,ltK kf y x=true
theorem last_le {l:List Keyed} {i:Nat} {x z:Keyed} (hs:l.Pairwise (leK kf)) (e:l[i]?=some x) (h:leK kf x z):∀ y∈l.take (i+1),leK kf y z:=fun y hy=>by
 rw [take_at e] at hy
 rcases List.mem_append.mp hy with hy | hy
 ·exact KeyOrd.kle_trans (sorted_take hs e y hy) h
 ·rw [List.mem_singleton.mp hy]; exact h
def MJ (kf:Keyed→O.α) (a b out:Array Keyed) (na nb:Nat):Prop:=MH kf a.toList b.toList out.toList.reverse na nb∧1≤na∧2≤nb∧na≤a.size∧nb≤b.size
theorem doneHi_ok (T:Two D kf a b) (h:MH kf a.toList b.toList out.toList.reverse na nb) (hi:na=0):MergedA kf a b (doneHi a b out na nb):=by
 subst hi
 unfold MergedA
 rw [doneHi_list]
 exact h.done T.sb
theorem firstHi_ok (T:Two D kf a b) (F:First kf a b) (h:MH kf a.toList b.toList out.toList.reverse na nb) (hi:nb=1) (hb:0 < b.size):MergedA kf a b (firstHi a b out na nb):=by
 subst hi
 unfold MergedA
 rw [firstHi_list]
 refine h.firstB T.sa T.sb fun y hy x hx=>?_
 have e:b.toList[0]?=some (b.getD 0 (Value.none,Value.none)):=by rw [Array.getElem?_toList]; exact gdK b hb
 rw [take_at e,List.take_zero,List.nil_append,List.mem_singleton] at hy
 rw [hy]
 exact KeyOrd.kle_of_klt (F _ e x (List.mem_of_mem_take hx))
def P4 (kf:Keyed→O.α) (st:SortSt) (a b:Array Keyed) (c0:Nat) (c:U2) (st':SortSt):Prop:=Good st st'∧((∃ r,c.1=some r∧MergedA kf a b r)∨(c.1=none∧MJ kf a b c.2.2.2.1 c.2.1 c.2.2.1∧c.2.1+c.2.2.1+c0≤a.size+b.size))
def Y4 (kf:Keyed→O.α) (st:SortSt) (a b:Array Keyed) (c0:Nat) (c:U2) (st':SortSt):Prop:=Good st st'∧c.1=none∧MJ kf a b c.2.2.2.1 c.2.1 c.2.2.1∧c.2.1+c.2.2.1+c0≤a.size+b.size
def R4 (kf:Keyed→O.α) (st:SortSt) (a b:Array Keyed) (c0:Nat) (r:ForInStep U2) (st':SortSt):Prop:=match r with | .done c'=>P4 kf st a b c0 c' st' | .yield c'=>Y4 kf st a b c0 c' st'
variable {c0 mg k k1 bc ac:Nat} {st':SortSt}
theorem wpS_hiD (T:Two D kf a b) (g:Good st st') (h:MJ kf a b out na nb) (hx:∀ x,a.toList[na - 1]?=some x→∀ y∈b.toList.take nb,leK kf y x) (hc0:na+nb+c0≤a.size+b.size):wpS (model prog w) A E s (hiD a b na nb out mg k k1) (R4 kf st a b c0) st':=by
 unfold hiD
 obtain ⟨hms,h1,h2,h3,h4⟩:=h
 refine wpS_bind (wpS_elem (by omega) fun x e1 e2=>?_)
 obtain ⟨n,rfl⟩:∃ n,na=n+1:=⟨na - 1,by omega⟩
 rw [Nat.add_sub_cancel] at e1 e2 hx ⊢
 have hm:=hms.stepA T.sa e2 (hx x e2)
 rw [← push_rev] at hm
 split
 ·rename_i e
  exact wpS_pure ⟨g,.inl ⟨_,rfl,doneHi_ok T hm (eq_of_beq e)⟩⟩
 ·rename_i e
  have e:¬ n=0:=fun z=>e (beq_iff_eq.mpr z)
  have hq:MJ kf a b (out.push x) n nb:=⟨hm,by omega,h2,by omega,h4⟩
  split
  ·exact wpS_pure ⟨g,.inr ⟨rfl,hq,by show n+nb+c0≤_; omega⟩⟩
  ·exact wpS_pure ⟨g,rfl,hq,by show n+nb+c0≤_; omega⟩
theorem wpS_hiC (T:Two D kf a b) (F:First kf a b) (hcm:Cmp prog w A s κ D (ltK kf)) (hk:kindOf st=κ) (g:Good st st') (h:MJ kf a b out na nb) (hy:∀ y,b.toList[nb - 1]?=some y→∀ x∈a.toList.take na,leK kf x y) (hc0:na+nb+c0≤a.size+b.size):wpS (model prog w) A E s (hiC a b na nb out mg k bc) (R4 kf st a b c0) st':=by
 unfold hiC
 obtain ⟨hms,h1,h2,h3,h4⟩:=h
 refine wpS_bind (wpS_elem (by omega) fun y e1 e2=>?_)
 obtain ⟨m,rfl⟩:∃ m,nb=m+1:=⟨nb - 1,by omega⟩
 rw [Nat.add_sub_cancel] at e1 e2 hy ⊢
 have hm:=hms.stepB T.sb e2 (hy y e2)
 rw [← push_rev] at hm
 split
 ·rename_i e
  exact wpS_pure ⟨g,.inl ⟨_,rfl,firstHi_ok T F hm (eq_of_beq e) (by omega)⟩⟩
 ·rename_i e
  have e:¬ m=1:=fun z=>e (beq_iff_eq.mpr z)
  refine wpS_bind (wpS_elem (by omega) fun x f1 f2=>?_)
  refine wpS_bind (wpS_gallop hcm (g.1.trans hk) (T.da _ _ f1) (fun i=>ltK kf (b.getD (0+i) (Value.none,Value.none)) x) (fun i hi=>⟨_,gdK b (by omega),T.db _ _ (gdK b (by omega)),rfl⟩) (fun i j hij hj hb=>?_) (by omega) fun at_ q1 q2 q3=>?_)
  ·refine KeyOrd.klt_of_kle_of_klt (pair_le T.sb (i:=0+i) (j:=0+j) (by omega) ?_ ?_) hb
   ·rw [Array.getElem?_toList]; exact gdK b (by omega)
   ·rw [Array.getElem?_toList]; exact gdK b (by omega)
  ·dsimp only
   have hat:1≤at_:=by
    refine Nat.pos_of_ne_zero fun z=>?_
    have:=q3 0 (by omega) (by omega)
    have hF:=F (b.getD 0 (Value.none,Value.none)) (by rw [Array.getElem?_toList]; exact gdK b (by omega)) x (List.mem_of_getElem? f2)
    rw [Nat.zero_add] at this
    rw [hF] at this
    cases this
   have hrest:∀ x',a.toList[na - 1]?=some x'→∀ nb',nb'=at_→∀ y∈b.toList.take nb',leK kf y x':=fun x' ex' nb' en=>by
    rw [f2] at ex'
    cases ex'
    obtain ⟨n,hn⟩:∃ n,nb'=n+1:=⟨nb' - 1,by omega⟩
    rw [hn]
    have hb0:b.toList[n]?=some (b.getD n (Value.none,Value.none)):=by rw [Array.getElem?_toList]; exact gdK b (by omega)
    refine last_le T.sb hb0 (KeyOrd.kle_of_klt ?_)
    have:=q2 n (by omega)
    rw [Nat.zero_add] at this
    exact this
   split
   ·obtain ⟨j,hj⟩:∃ j,m=at_+j:=⟨m - at_,by omega⟩
    have hbk:MH kf a.toList b.toList ((b.toList.take (at_+j)).drop at_++(out.push y).toList.reverse) na at_:=by
     rw [hj] at hm
     refine MH.bulkB T.sb hm (by rw [Array.length_toList]; omega) fun i z i1 i2 ez=>?_
     have:=q3 i i1 (by omega)
     rw [Nat.zero_add] at this
     rw [Array.getElem?_toList,gdK b (by omega)] at ez
     cases ez
     have hle:leK kf x (b.getD i (Value.none,Value.none)):=this
     have:=last_le T.sa f2 hle
     rwa [show na - 1+1=na by omega] at this
    rw [← hj,← app_rev] at hbk
    split
    ·rename_i e3
     exact wpS_pure ⟨g,.inl ⟨_,rfl,firstHi_ok T F hbk (eq_of_beq e3) (by omega)⟩⟩
    ·rename_i e3
     have e3:¬ at_=1:=fun z=>e3 (beq_iff_eq.mpr z)
     split
     ·rename_i e4
      have e4:=eq_of_beq e4
      omega
     ·exact wpS_hiD T g ⟨hbk,h1,by omega,h3,by omega⟩ (fun x' ex'=>hrest x' ex' _ rfl) (by omega)
   ·exact wpS_hiD T g ⟨hm,h1,by omega,h3,by omega⟩ (fun x' ex'=>hrest x' ex' _ (by omega)) (by omega)
theorem wpS_hiB (T:Two D kf a b) (F:First kf a b) (hcm:Cmp prog w A s κ D (ltK kf)) (hk:kindOf st=κ) (g:Good st st') (h:MJ kf a b out na nb) (hc0:na+nb+c0≤a.size+b.size):wpS (model prog w) A E s (hiB a b na nb out mg ac bc) (R4 kf st a b c0) st':=by
 unfold hiB
 obtain ⟨hms,h1,h2,h3,h4⟩:=h
 refine wpS_bind (wpS_setGal fun st2 g2=>?_)
 have g:=g.trans g2
 refine wpS_bind (wpS_elem (by omega) fun y e1 e2=>?_)
 refine wpS_bind (wpS_gallop hcm (g.1.trans hk) (T.db _ _ e1) (fun i=>!(ltK kf y (a.getD (0+i) (Value.none,Value.none)))) (fun i hi=>⟨_,gdK a (by omega),T.da _ _ (gdK a (by omega)),rfl⟩) (fun i j hij hj hb=>?_) (by omega) fun at_ q1 q2 q3=>?_)
 ·have hle:leK kf (a.getD (0+j) (Value.none,Value.none)) y:=by
   unfold leK KeyOrd.kle
   unfold ltK at hb
   simpa using hb
  have:=KeyOrd.kle_trans (pair_le T.sa (i:=0+i) (j:=0+j) (by omega) (by rw [Array.getElem?_toList]; exact gdK a (by omega)) (by rw [Array.getElem?_toList]; exact gdK a (by omega))) hle
  unfold KeyOrd.kle at this
  unfold ltK
  rw [this]
  rfl
 ·dsimp only
  have hrest:∀ na',na'=at_→∀ y',b.toList[nb - 1]?=some y'→∀ x∈a.toList.take na',leK kf x y':=fun na' e y' ey=>by
   rw [e2] at ey
   cases ey
   subst e
   by_cases hz:na'=0
   ·rw [hz,List.take_zero]; exact fun _ z=>nomatch z
   obtain ⟨n,rfl⟩:∃ n,na'=n+1:=⟨na' - 1,by omega⟩
   have ha0:a.toList[n]?=some (a.getD n (Value.none,Value.none)):=by rw [Array.getElem?_toList]; exact gdK a (by omega)
   refine last_le T.sa ha0 ?_
   have:=q2 n (by omega)
   rw [Nat.zero_add] at this
   unfold leK KeyOrd.kle
   unfold ltK at this
   simpa using this
  split
  ·obtain ⟨j,hj⟩:∃ j,na=at_+j:=⟨na - at_,by omega⟩
   have hbk:MH kf a.toList b.toList ((a.toList.take (at_+j)).drop at_++out.toList.reverse) at_ nb:=by
    rw [hj] at hms
    refine MH.bulkA T.sa j hms (by rw [Array.length_toList]; omega) fun i z i1 i2 ez=>?_
    have:=q3 i i1 (by omega)
    rw [Nat.zero_add] at this
    rw [Array.getElem?_toList,gdK a (by omega)] at ez
    cases ez
    have hlt:O.klt (kf y) (kf (a.getD i (Value.none,Value.none))):=by
     unfold KeyOrd.klt
     unfold ltK at this
     simpa using this
    have:=last_le T.sb e2 (KeyOrd.kle_of_klt hlt)
    rwa [show nb - 1+1=nb by omega] at this
   rw [← hj,← app_rev] at hbk
   split
   ·rename_i e3
    exact wpS_pure ⟨g,.inl ⟨_,rfl,doneHi_ok T hbk (eq_of_beq e3)⟩⟩
   ·rename_i e3
    have e3:¬ at_=0:=fun z=>e3 (beq_iff_eq.mpr z)
    exact wpS_hiC T F hcm hk g ⟨hbk,by omega,h2,by omega,h4⟩ (hrest _ rfl) (by omega)
  ·exact wpS_hiC T F hcm hk g ⟨hms,h1,h2,h3,h4⟩ (hrest _ (by omega)) hc0
def P3 (kf:Keyed→O.α) (st:SortSt) (a b:Array Keyed) (c0:Nat) (c:U1) (st':SortSt):Prop:=Good st st'∧((∃ r,c.1=some r∧MergedA kf a b r)∨(c.1=none∧MJ kf a b c.2.2.2.1 c.2.1 c.2.2.1∧c.2.1+c.2.2.1+c0≤a.size+b.size))
def Y3 (kf:Keyed→O.α) (st:SortSt) (a b:Array Keyed) (c0:Nat) (c:U1) (st':SortSt):Prop:=Good st st'∧c.1=none∧MJ kf a b c.2.2.2.1 c.2.1 c.2.2.1∧c.2.1+c.2.2.1+c0≤a.size+b.size
def R3 (kf:Keyed→O.α) (st:SortSt) (a b:Array Keyed) (c0:Nat) (r:ForInStep U1) (st':SortSt):Prop:=match r with | .done c'=>P3 kf st a b c0 c' st' | .yield c'=>Y3 kf st a b c0 c' st'
theorem wpS_hiA (T:Two D kf a b) (F:First kf a b) (hcm:Cmp prog w A s κ D (ltK kf)) (hk:kindOf st=κ) (g:Good st st') (h:MJ kf a b out na nb) (hc0:na+nb+c0≤a.size+b.size):wpS (model prog w) A E s (hiA a b na nb out ac bc mg) (R3 kf st a b (c0+1)) st':=by
 unfold hiA
 obtain ⟨hms,h1,h2,h3,h4⟩:=h
 refine wpS_bind (wpS_elem (by omega) fun y e1 e2=>?_)
 refine wpS_bind (wpS_elem (by omega) fun x f1 f2=>?_)
 refine wpS_bind (wpS_cmp hcm (g.1.trans hk) (T.db _ _ e1) (T.da _ _ f1) ?_)
 dsimp only
 obtain ⟨n,rfl⟩:∃ n,na=n+1:=⟨na - 1,by omega⟩
 obtain ⟨m,rfl⟩:∃ m,nb=m+1:=⟨nb - 1,by omega⟩
 rw [Nat.add_sub_cancel] at e1 e2 f1 f2 ⊢
 rw [Nat.add_sub_cancel]
 cases hb:ltK kf y x with
 | true =>
  rw [if_pos rfl]
  refine wpS_bind (wpS_elem (by omega) fun x' e1' e2'=>?_)
  rw [f2] at e2'
  cases e2'
  have hm:=hms.stepA T.sa f2 (last_le T.sb e2 (KeyOrd.kle_of_klt hb))
  rw [← push_rev] at hm
  split
  ·rename_i e
   exact wpS_pure ⟨g,.inl ⟨_,rfl,doneHi_ok T hm (eq_of_beq e)⟩⟩
  ·rename_i e
   have e:¬ n=0:=fun z=>e (beq_iff_eq.mpr z)
   have hq:MJ kf a b (out.push x) n (m+1):=⟨hm,by omega,h2,by omega,h4⟩
   split
   ·exact wpS_pure ⟨g,.inr ⟨rfl,hq,by show n+(m+1)+(c0+1)≤_; omega⟩⟩
   ·exact wpS_pure ⟨g,rfl,hq,by show n+(m+1)+(c0+1)≤_; omega⟩
 | false =>
  rw [if_neg (by simp)]
  refine wpS_bind (wpS_elem (by omega) fun y' e1' e2'=>?_)
  rw [e2] at e2'
  cases e2'
  have hm:=hms.stepB T.sb e2 (last_le T.sa f2 hb)
  rw [← push_rev] at hm
  split
  ·rename_i e
   exact wpS_pure ⟨g,.inl ⟨_,rfl,firstHi_ok T F hm (eq_of_beq e) (by omega)⟩⟩
  ·rename_i e
   have e:¬ m=1:=fun z=>e (beq_iff_eq.mpr z)
   have hq:MJ kf a b (out.push y) (n+1) m:=⟨hm,h1,by omega,h3,by omega⟩
   split
   ·exact wpS_pure ⟨g,.inr ⟨rfl,hq,by show n+1+m+(c0+1)≤_; omega⟩⟩
   ·exact wpS_pure ⟨g,rfl,hq,by show n+1+m+(c0+1)≤_; omega⟩
theorem wpS_mergeHi (T:Two D kf a b) (F:First kf a b) (hcm:Cmp prog w A s κ D (ltK kf)) (hk:kindOf st=κ) (ha:0 < a.size) (hb:0 < b.size) {Q:Array Keyed→SortSt→Prop}
  (q:∀ r st',MergedA kf a b r→Good st st'→Q r st'):wpS (model prog w) A E s (mergeHi' a b) Q st:=by
 rw [mergeHi'_eq]
 refine wpS_bind (wpS_rule ?_)
 refine wpS_bind (wpS_elem (by omega) fun y e1 e2=>?_)
 have hm0:MH kf a.toList b.toList (#[y]:Array Keyed).toList.reverse (a.size - 1) b.size:=by
  have z:MH kf a.toList b.toList [] (a.size - 1+1) b.size:=by
   refine ⟨?_,.nil,(fun _ _ _ h=>nomatch h),fun _ _ _ h=>nomatch h⟩
   rw [List.drop_eq_nil_of_le (by rw [Array.length_toList]; omega),List.drop_eq_nil_of_le (by rw [Array.length_toList]; omega)]
   exact .nil
  exact z.stepA T.sa e2 (fun x hx=>KeyOrd.kle_of_klt (T.last x (List.mem_of_mem_take hx) y e1))
 have gr:Good st st:=⟨rfl,rfl,rfl,rfl⟩
 split
 ·rename_i e
  exact wpS_pure (q _ _ (doneHi_ok T hm0 (eq_of_beq e)) gr)
 ·rename_i e
  have e:¬ a.size - 1=0:=fun z=>e (beq_iff_eq.mpr z)
  split
  ·rename_i e'
   exact wpS_pure (q _ _ (firstHi_ok T F hm0 (eq_of_beq e') hb) gr)
  ·rename_i e'
   have e':¬ b.size=1:=fun z=>e' (beq_iff_eq.mpr z)
   refine wpS_bind (wpS_get ?_)
   refine wpS_bind (wpS_mono (wpS_forRange (I:=fun x c st'=>Good st st'∧c.1=none∧MJ kf a b c.2.2.2.1 c.2.1 c.2.2.1∧c.2.1+c.2.2.1+(x+1)≤a.size+b.size)
    (Q:=fun c st'=>Good st st'∧∃ r,c.1=some r∧MergedA kf a b r) ?step ?fin ⟨gr,rfl,⟨hm0,by show 1≤a.size - 1; omega,by show 2≤b.size; omega,by show a.size - 1≤a.size; omega,Nat.le_refl _⟩,by show a.size - 1+b.size+(0+1)≤_; omega⟩) ?post)
   case post =>
    rintro c st' ⟨g,r,e1,e2⟩
    obtain ⟨c1,c2⟩:=c
    dsimp only at e1
    subst e1
    exact wpS_pure (q _ _ e2 g)
   case fin =>
    rintro c st' ⟨g,e1,⟨_,h1,h2,_⟩,h3⟩
    exfalso
    omega
   case step =>
    rintro x c st1 _ hx ⟨g,e1,hMI,hx2⟩
    refine wpS_bind (wpS_mono (wpS_forRange (I:=fun z d st'=>Y3 kf st a b (x+1+min z 1) d st') (Q:=fun d st'=>P3 kf st a b (x+2) d st') ?s1 ?f1 ⟨g,rfl,hMI,by show c.2.1+c.2.2.1+(x+1+min 0 1)≤_; omega⟩) ?p1)
    case f1 =>
     rintro d st' ⟨g,e1,h1,h2⟩
     exact ⟨g,.inr ⟨e1,h1,by omega⟩⟩
    case s1 =>
     rintro z d st' _ hz ⟨g,e1,h1,h2⟩
     refine wpS_mono (wpS_hiA T F hcm hk g h1 (c0:=x+1) (by omega)) fun r st2 hr=>?_
     cases r with
     | done c'=>exact hr
     | «yield» c'=>exact ⟨hr.1,hr.2.1,hr.2.2.1,by have:=hr.2.2.2; omega⟩
    case p1 =>
     rintro d st' ⟨g,hd⟩
     obtain ⟨d1,d2⟩:=d
     rcases hd with ⟨r,e1,e2⟩ | ⟨e1,h1,h2⟩
     ·dsimp only at e1
      subst e1
      exact wpS_pure ⟨g,r,rfl,e2⟩
     ·dsimp only at e1
      subst e1
      refine wpS_bind (wpS_rule ?_)
      refine wpS_bind (wpS_mono (wpS_forRange (I:=fun z d st'=>Y4 kf st a b (x+2) d st') (Q:=fun d st'=>P4 kf st a b (x+2) d st') ?s2 ?f2 ⟨g,rfl,h1,h2⟩) ?p2)
      case f2 =>
       rintro d st' ⟨g,e1,h1,h2⟩
       exact ⟨g,.inr ⟨e1,h1,h2⟩⟩
      case s2 =>
       rintro z d st' _ hz ⟨g,e1,h1,h2⟩
       split
       ·refine wpS_mono (wpS_hiB T F hcm hk g h1 h2) fun r st2 hr=>?_
        cases r <;> exact hr
       ·refine wpS_mono (wpS_hiB T F hcm hk g h1 h2) fun r st2 hr=>?_
        cases r <;> exact hr
      case p2 =>
       rintro d st' ⟨g,hd⟩
       obtain ⟨d1,d2⟩:=d
       rcases hd with ⟨r,e1,e2⟩ | ⟨e1,h1,h2⟩
       ·dsimp only at e1
        subst e1
        exact wpS_pure ⟨g,r,rfl,e2⟩
       ·dsimp only at e1
        subst e1
        refine wpS_bind (wpS_setGal fun st3 g3=>?_)
        exact wpS_pure ⟨g.trans g3,rfl,h1,h2⟩
end
noncomputable def setAll (arr merged:Array Keyed) (sa:Nat):Array Keyed:=merged.toList.zipIdx.foldl (fun a (p,j)=>a.setIfInBounds (sa+j) p) arr
noncomputable def mgC (sa:Nat) (merged:Array Keyed):StateT SortSt Sem Bool :=
 (modify fun s=>SortSt.mk' (kindOf s) (setAll (arrOf s) merged sa) (pendingOf s) (gallopOf s) (failedOf s)) >>= fun _=>get >>= fun s=>pure (failedOf s).isNone
noncomputable def mgB (s:SortSt) (sa na sb nb:Nat):StateT SortSt Sem Bool :=
 elem' (arrOf s) (sa+na - 1) >>= fun x=>gallop' true x (arrOf s) sb nb (nb - 1) >>= fun r=>match r with
 | some n=>(if (n == 0)=true then pure true
  else if na≤n then mergeLo' ((arrOf s).extract sa sb) ((arrOf s).extract sb (sb+n)) >>= mgC sa
  else mergeHi' ((arrOf s).extract sa sb) ((arrOf s).extract sb (sb+n)) >>= mgC sa)
 | _=>pure false
noncomputable def mgA (s:SortSt) (sa na sb nb:Nat):StateT SortSt Sem Bool :=
 elem' (arrOf s) sb >>= fun y=>gallop' false y (arrOf s) sa na 0 >>= fun r=>match r with
 | some k=>(if (na - k == 0)=true then pure true else mgB s (sa+k) (na - k) sb nb)
 | _=>pure false
theorem mergeAt'_eq (i:Nat):mergeAt' i=(get >>= fun s=>match ((pendingOf s)[i]?,(pendingOf s)[i+1]?) with
 | (some (sa,na,pw),some (sb,nb,_))=>set (SortSt.mk' (kindOf s) (arrOf s) (((pendingOf s).setIfInBounds i (sa,na+nb,pw)).eraseIdxIfInBounds (i+1)) (gallopOf s) (failedOf s)) >>= fun _=>mgA s sa na sb nb
 | _=>liftM (unsupported "internal:list.sort.pending" : Sem Bool)):=by
 show (_ >>= _)=(_ >>= _)
 refine congrArg _ (funext fun s=>?_)
 dsimp only
 rcases (pendingOf s)[i]? with _ | ⟨sa,na,pw⟩
 ·rfl
 rcases (pendingOf s)[i+1]? with _ | ⟨sb,nb,pw2⟩
 ·rfl
 dsimp only
 refine congrArg _ (funext fun _=>?_)
 unfold mgA
 refine congrArg _ (funext fun y=>?_)
 refine congrArg _ (funext fun r=>?_)
 rcases r with _ | k
 ·rfl
 dsimp only
 refine ite_congr rfl (fun _=>rfl) fun _=>?_
 unfold mgB
 refine congrArg _ (funext fun x=>?_)
 refine congrArg _ (funext fun r=>?_)
 rcases r with _ | n
 ·rfl
 rfl
theorem foldl_set:∀ (l:List Keyed) (arr:Array Keyed) (sa j:Nat),sa+j+l.length≤arr.size →
  ((l.zipIdx j).foldl (fun a (p:Keyed×Nat)=>a.setIfInBounds (sa+p.2) p.1) arr).toList=arr.toList.take (sa+j)++l++arr.toList.drop (sa+j+l.length)
 | [],arr,sa,j,h=>by simp
 | x::l,arr,sa,j,h=>by
  rw [List.length_cons] at h
  rw [List.zipIdx_cons,List.foldl_cons,foldl_set l _ sa (j+1) (by rw [Array.size_setIfInBounds]; omega)]
  rw [Array.toList_setIfInBounds]
  have hlt:sa+j < arr.toList.length:=by rw [Array.length_toList]; omega
  rw [List.length_cons,show sa+(j+1)=sa+j+1 by omega]
  rw [List.take_set,List.drop_set_of_lt (by omega)]
  rw [List.take_succ_eq_append_getElem hlt,List.set_append_right _ _ (by rw [List.length_take]; omega)]
  rw [List.length_take,show sa+j - min (sa+j) arr.toList.length=0 by omega]
  simp [List.append_assoc]
  congr 1
  omega
theorem setAll_list (arr merged:Array Keyed) (sa:Nat) (h:sa+merged.size≤arr.size):(setAll arr merged sa).toList=arr.toList.take sa++merged.toList++arr.toList.drop (sa+merged.size):=by
 have:=foldl_set merged.toList arr sa 0 (by rw [Array.length_toList]; omega)
 rw [Nat.add_zero,Array.length_toList] at this
 exact this
theorem wpS_set {M:Model} {A:Around} {E:Value→Shared→Prop} {s:Shared} {σ:Type} {st st2:σ} {Q:PUnit→σ→Prop} (h:Q ⟨⟩ st2):wpS M A E s (set st2:StateT σ Sem PUnit) Q st:=by
 unfold wpS; rw [StateT.run_set]; exact wpAny_pure ⟨rfl,h⟩
section
variable {prog:Program} {w:World} {A:Around} {E:Value→Shared→Prop} {s:Shared} {κ:SortKind} {D:Keyed→Prop} {O:KeyOrd} {kf:Keyed→O.α} {st:SortSt}
structure Runs2 (kf:Keyed→O.α) (D:Keyed→Prop) (arr:Array Keyed) (P LA LB R:List Keyed):Prop where
 eq:arr.toList=P++LA++LB++R
 d:∀ x∈arr.toList,D x
 sa:LA.Pairwise (leK kf)
 sb:LB.Pairwise (leK kf)
 na:0 < LA.length
 nb:0 < LB.length
variable {arr:Array Keyed} {P LA LB R:List Keyed}
theorem Runs2.atA (h:Runs2 kf D arr P LA LB R) {i:Nat} (hi:i < LA.length):arr[P.length+i]?=LA[i]?:=by
 rw [← Array.getElem?_toList,h.eq,List.append_assoc,List.append_assoc,List.getElem?_append_right (by omega),List.getElem?_append_left (by omega)]
 congr 1
 omega
theorem Runs2.atB (h:Runs2 kf D arr P LA LB R) {i:Nat} (hi:i < LB.length):arr[P.length+LA.length+i]?=LB[i]?:=by
 rw [← Array.getElem?_toList,h.eq,List.append_assoc,List.getElem?_append_right (by rw [List.length_append]; omega),List.getElem?_append_left (by rw [List.length_append]; omega)]
 congr 1
 rw [List.length_append]
 omega
theorem Runs2.dA (h:Runs2 kf D arr P LA LB R):∀ x∈LA,D x:=fun x hx=>h.d x (by rw [h.eq]; simp [hx])
theorem Runs2.dB (h:Runs2 kf D arr P LA LB R):∀ x∈LB,D x:=fun x hx=>h.d x (by rw [h.eq]; simp [hx])
theorem Runs2.size (h:Runs2 kf D arr P LA LB R):arr.size=P.length+LA.length+LB.length+R.length:=by
 rw [← Array.length_toList,h.eq]; simp [Nat.add_assoc]
theorem Runs2.extA (h:Runs2 kf D arr P LA LB R) (k:Nat):(arr.extract (P.length+k) (P.length+LA.length)).toList=LA.drop k:=by
 rw [ext_to,h.eq,List.append_assoc (P++LA),List.take_append_of_le_length (by simp)]
 rw [List.take_of_length_le (by simp),List.drop_append,List.drop_eq_nil_of_le (by omega),List.nil_append]
 congr 1
 omega
theorem Runs2.extB (h:Runs2 kf D arr P LA LB R) {k:Nat} (hk:k≤LB.length):(arr.extract (P.length+LA.length) (P.length+LA.length+k)).toList=LB.take k:=by
 rw [ext_some,h.eq,List.append_assoc,List.drop_append_of_le_length (by simp),List.drop_eq_nil_of_le (by simp),List.nil_append,List.take_append_of_le_length hk]
theorem wpS_mergeAt {i pw pw2:Nat} {Q:Bool→SortSt→Prop} (hcm:Cmp prog w A s κ D (ltK kf)) (hk:kindOf st=κ) (h:Runs2 kf D (arrOf st) P LA LB R) (hp:(pendingOf st)[i]?=some (P.length,LA.length,pw)) (hp2:(pendingOf st)[i+1]?=some (P.length+LA.length,LB.length,pw2)) (hf:failedOf st=none)
  (q:∀ (st':SortSt) (M:List Keyed),kindOf st'=κ→failedOf st'=none→pendingOf st'=((pendingOf st).setIfInBounds i (P.length,LA.length+LB.length,pw)).eraseIdxIfInBounds (i+1)→Merged kf LA LB M→(arrOf st').toList=P++M++R→Q true st'):wpS (model prog w) A E s (mergeAt' i) Q st:=by
 rw [mergeAt'_eq]
 refine wpS_bind (wpS_get ?_)
 rw [hp,hp2]
 dsimp only
 refine wpS_bind (wpS_set ?_)
 unfold mgA
 have hsz:=heq_of_eq h.size
 have hna:=h.na
 have hnb:=h.nb
 generalize hst2:SortSt.mk' (kindOf st) (arrOf st) (((pendingOf st).setIfInBounds i (P.length,LA.length+LB.length,pw)).eraseIdxIfInBounds (i+1)) (gallopOf st) (failedOf st)=st2
 have k2:kindOf st2=κ:=by rw [← hst2]; exact hk
 have a2:arrOf st2=arrOf st:=by rw [← hst2]
 have p2:pendingOf st2=((pendingOf st).setIfInBounds i (P.length,LA.length+LB.length,pw)).eraseIdxIfInBounds (i+1):=by rw [← hst2]
 have f2:failedOf st2=none:=by rw [← hst2]; exact hf
 have whole:LA++LB=LA++LB→(∀ x∈LA,∀ y∈LB,leK kf x y)→Q true st2:=fun _ hle=>by
  refine q st2 (LA++LB) k2 f2 p2 ⟨.refl _,List.pairwise_append.mpr ⟨h.sa,h.sb,hle⟩⟩ ?_
  rw [a2,h.eq]
  simp [List.append_assoc]
 refine wpS_bind (wpS_elem (by have:=eq_of_heq hsz; omega) fun y e1 _=>?_)
 have ey:LB[0]?=some y:=by rw [← h.atB hnb]; exact e1
 have hyB:∀ z∈LB,leK kf y z:=head_le h.sb ey (KeyOrd.kle_refl _)
 have gA:∀ i,i < LA.length→(arrOf st)[P.length+i]?=some (LA.getD i (Value.none,Value.none))∧LA[i]?=some (LA.getD i (Value.none,Value.none)):=fun i hi=>by
  have:LA[i]?=some (LA.getD i (Value.none,Value.none)):=by rw [List.getD_eq_getElem?_getD,List.getElem?_eq_getElem hi]; rfl
  exact ⟨by rw [h.atA hi]; exact this,this⟩
 have gB:∀ i,i < LB.length→(arrOf st)[P.length+LA.length+i]?=some (LB.getD i (Value.none,Value.none))∧LB[i]?=some (LB.getD i (Value.none,Value.none)):=fun i hi=>by
  have:LB[i]?=some (LB.getD i (Value.none,Value.none)):=by rw [List.getD_eq_getElem?_getD,List.getElem?_eq_getElem hi]; rfl
  exact ⟨by rw [h.atB hi]; exact this,this⟩
 have le_of:∀ {u v:Keyed},(!(ltK kf u v))=true→leK kf v u:=fun {u v} z=>by
  unfold leK KeyOrd.kle
  unfold ltK at z
  simpa using z
 refine wpS_bind (wpS_gallop hcm k2 (h.dB _ (List.mem_of_getElem? ey)) (fun i=>!(ltK kf y (LA.getD i (Value.none,Value.none)))) (fun i hi=>⟨_,(gA i hi).1,h.dA _ (List.mem_of_getElem? (gA i hi).2),rfl⟩) (fun i j hij hj hb=>?_) hna fun k q1 q2 q3=>?_)
 ·have:=KeyOrd.kle_trans (pair_le h.sa hij (gA i (by omega)).2 (gA j hj).2) (le_of hb)
  unfold KeyOrd.kle at this
  unfold ltK
  rw [this]
  rfl
 ·dsimp only
  have hAk:∀ x∈LA.take k,leK kf x y:=fun x hx=>by
   obtain ⟨j,hj,e⟩:=List.mem_iff_getElem.mp hx
   rw [List.length_take] at hj
   have hjn:=Nat.lt_of_lt_of_le hj (Nat.min_le_right _ _)
   have:=le_of (q2 j (Nat.lt_of_lt_of_le hj (Nat.min_le_left _ _)))
   have e2:=(gA j hjn).2
   rw [List.getElem_take] at e
   rw [List.getElem?_eq_getElem hjn,e] at e2
   injection e2 with e2
   rw [e2]
   exact this
  split
  ·rename_i e
   have e:=eq_of_beq e
   refine wpS_pure (whole rfl fun x hx z hz=>KeyOrd.kle_trans (hAk x ?_) (hyB z hz))
   rw [List.take_of_length_le (by omega)]
   exact hx
  ·rename_i e
   replace e:k < LA.length:=Nat.lt_of_sub_ne_zero fun z=>e (beq_iff_eq.mpr z)
   clear q1
   have hAd:∀ x∈LA.drop k,ltK kf y x=true:=fun x hx=>by
    obtain ⟨j,hj,e⟩:=List.mem_iff_getElem.mp hx
    rw [List.length_drop] at hj
    rw [List.getElem_drop] at e
    clear hsz hnb
    have hkj:k+j < LA.length:=by omega
    have:=q3 (k+j) (Nat.le_add_right _ _) hkj
    have e2:=(gA (k+j) hkj).2
    rw [List.getElem?_eq_getElem hkj,e] at e2
    injection e2 with e2
    rw [e2]
    simpa using this
   unfold mgB
   refine wpS_bind (wpS_elem (by have:=eq_of_heq hsz; omega) fun x f1 _=>?_)
   rw [show P.length+k+(LA.length - k) - 1=P.length+(LA.length - 1) by omega] at f1
   have ex:LA[LA.length - 1]?=some x:=by rw [← h.atA (by omega)]; exact f1
   have hxA:∀ z∈LA,leK kf z x:=fun z hz=>by
    have:=last_le h.sa ex (KeyOrd.kle_refl _) z
    rw [show LA.length - 1+1=LA.length by omega,List.take_length] at this
    exact this hz
   refine wpS_bind (wpS_gallop hcm k2 (h.dA _ (List.mem_of_getElem? ex)) (fun i=>ltK kf (LB.getD i (Value.none,Value.none)) x) (fun i hi=>⟨_,(gB i hi).1,h.dB _ (List.mem_of_getElem? (gB i hi).2),rfl⟩) (fun i j hij hj hb=>?_) (by omega) fun n r1 r2 r3=>?_)
   ·exact KeyOrd.klt_of_kle_of_klt (pair_le h.sb hij (gB i (by omega)).2 (gB j hj).2) hb
   ·dsimp only
    have hBd:∀ z∈LB.drop n,leK kf x z:=fun z hz=>by
     obtain ⟨j,hj,e⟩:=List.mem_iff_getElem.mp hz
     rw [List.length_drop] at hj
     rw [List.getElem_drop] at e
     have hnj:n+j < LB.length:=by clear hsz hna hnb; omega
     have:=r3 (n+j) (Nat.le_add_right _ _) hnj
     have e2:=(gB (n+j) hnj).2
     rw [List.getElem?_eq_getElem hnj,e] at e2
     injection e2 with e2
     rw [e2]
     exact this
    have hBt:∀ z∈LB.take n,ltK kf z x=true:=fun z hz=>by
     obtain ⟨j,hj,e⟩:=List.mem_iff_getElem.mp hz
     rw [List.length_take] at hj
     rw [List.getElem_take] at e
     have hjn:=Nat.lt_of_lt_of_le hj (Nat.min_le_right _ _)
     have:=r2 j (Nat.lt_of_lt_of_le hj (Nat.min_le_left _ _))
     have e2:=(gB j hjn).2
     rw [List.getElem?_eq_getElem hjn,e] at e2
     injection e2 with e2
     rw [e2]
     exact this
    split
    ·rename_i e
     have e:=eq_of_beq e
     refine wpS_pure (whole rfl fun u hu z hz=>KeyOrd.kle_trans (hxA u hu) (hBd z ?_))
     rw [e,List.drop_zero]
     exact hz
    ·rename_i en
     replace en:0 < n:=Nat.pos_of_ne_zero fun z=>en (beq_iff_eq.mpr z)
     have eX:=h.extA k
     have eY:=h.extB r1
     generalize hXa:(arrOf st).extract (P.length+k) (P.length+LA.length)=Xa at eX
     generalize hYa:(arrOf st).extract (P.length+LA.length) (P.length+LA.length+n)=Ya at eY
     have sX:=heq_of_eq (show Xa.size=LA.length - k by rw [← Array.length_toList,eX,List.length_drop])
     have sY:=heq_of_eq (show Ya.size=n by rw [← Array.length_toList,eY,List.length_take,Nat.min_eq_left r1])
     have T:Two D kf Xa Ya:=by
      refine ⟨fun i z ez=>?_,fun i z ez=>?_,by rw [eX]; exact h.sa.drop,by rw [eY]; exact h.sb.take,fun z hz u eu=>?_⟩
      ·refine h.dA z (List.mem_of_mem_drop (i:=k) ?_)
       rw [← eX]; rw [← Array.getElem?_toList] at ez; exact List.mem_of_getElem? ez
      ·refine h.dB z (List.mem_of_mem_take (i:=n) ?_)
       rw [← eY]; rw [← Array.getElem?_toList] at ez; exact List.mem_of_getElem? ez
      ·rw [eY] at hz
       rw [← Array.getElem?_toList,eX,List.getElem?_drop,eq_of_heq sX,show k+(LA.length - k - 1)=LA.length - 1 by omega,ex] at eu
       cases eu
       exact hBt z hz
     have F:First kf Xa Ya:=fun z ez u hu=>by
      rw [eY,List.getElem?_take_of_lt en,ey] at ez
      cases ez
      rw [eX] at hu
      exact hAd u hu
     have fin:∀ (r:Array Keyed) (st3:SortSt),MergedA kf Xa Ya r→Good st2 st3→wpS (model prog w) A E s (mgC (P.length+k) r) Q st3:=fun r st3 hr g=>by
      unfold mgC
      obtain ⟨hpm,hso⟩:=hr
      rw [eX,eY] at hpm
      have hrl:=heq_of_eq (show r.size=LA.length - k+n by
       have:=hpm.length_eq
       rw [List.length_append,List.length_drop,List.length_take,Array.length_toList,Nat.min_eq_left r1] at this
       exact this)
      refine wpS_bind (wpS_modify (wpS_bind (wpS_get (wpS_pure ?_))))
      show Q (failedOf st3).isNone _
      rw [g.2.2.2,f2]
      have hmem:∀ z∈r.toList,z∈LA.drop k∨z∈LB.take n:=fun z hz=>List.mem_append.mp (hpm.mem_iff.mp hz)
      refine q _ (LA.take k++r.toList++LB.drop n) (g.1.trans k2) rfl (g.2.2.1.trans p2) ⟨?_,?_⟩ ?_
      ·refine ((List.Perm.append_left _ hpm).append_right _).trans ?_
       rw [← List.append_assoc (LA.take k),List.take_append_drop,List.append_assoc,List.take_append_drop]
      ·have sAk:∀ u∈LA.take k,∀ v∈LA.drop k,leK kf u v:=by
        have:=h.sa
        rw [← List.take_append_drop k LA,List.pairwise_append] at this
        exact this.2.2
       have sBk:∀ u∈LB.take n,∀ v∈LB.drop n,leK kf u v:=by
        have:=h.sb
        rw [← List.take_append_drop n LB,List.pairwise_append] at this
        exact this.2.2
       rw [List.pairwise_append,List.pairwise_append]
       refine ⟨⟨h.sa.take,hso,fun u hu v hv=>?_⟩,h.sb.drop,fun u hu v hv=>?_⟩
       ·rcases hmem v hv with z | z
        ·exact sAk u hu v z
        ·exact KeyOrd.kle_trans (hAk u hu) (hyB v (List.mem_of_mem_take z))
       ·rcases List.mem_append.mp hu with z | z
        ·exact KeyOrd.kle_trans (hxA u (List.mem_of_mem_take z)) (hBd v hv)
        ·rcases hmem u z with z | z
         ·exact KeyOrd.kle_trans (hxA u (List.mem_of_mem_drop z)) (hBd v hv)
         ·exact sBk u z v hv
      ·show (setAll (arrOf st3) r (P.length+k)).toList=_
       rw [g.2.1,a2,setAll_list _ _ _ (by rw [eq_of_heq hrl,eq_of_heq hsz]; clear hsz; omega),h.eq,eq_of_heq hrl]
       have e1:(P++LA++LB++R).take (P.length+k)=P++LA.take k:=by
        rw [List.append_assoc,List.append_assoc,List.take_append,List.take_of_length_le (by omega),show P.length+k - P.length=k by omega,List.take_append_of_le_length (by omega)]
       have e2:(P++LA++LB++R).drop (P.length+k+(LA.length - k+n))=LB.drop n++R:=by
        rw [List.append_assoc (P++LA),List.drop_append,List.drop_eq_nil_of_le (by rw [List.length_append]; omega),List.nil_append,List.length_append,show P.length+k+(LA.length - k+n) - (P.length+LA.length)=n by omega,List.drop_append_of_le_length r1]
       rw [e1,e2]
       simp [List.append_assoc]
     split
     ·exact wpS_bind (wpS_mergeLo T hcm k2 (by rw [eq_of_heq sX]; omega) (by rw [eq_of_heq sY]; exact en) (fun z ez u hu=>KeyOrd.kle_of_klt (F z ez u hu)) fun r st3 hr g=>fin r st3 hr g)
     ·exact wpS_bind (wpS_mergeHi T F hcm k2 (by rw [eq_of_heq sX]; omega) (by rw [eq_of_heq sY]; exact en) fun r st3 hr g=>fin r st3 hr g)
end
section
variable {prog:Program} {w:World} {A:Around} {E:Value→Shared→Prop} {s:Shared} {κ:SortKind} {D:Keyed→Prop} {O:KeyOrd} {kf:Keyed→O.α} {st:SortSt}
noncomputable def kx (kf:Keyed→O.α) (arr:Array Keyed) (i:Nat):O.α:=kf (arr.getD i (Value.none,Value.none))
def SoO (kf:Keyed→O.α) (arr:Array Keyed) (lo m:Nat):Prop:=∀ i j,i≤j→j < m→O.kle (kx kf arr (lo+i)) (kx kf arr (lo+j))
def NiO (kf:Keyed→O.α) (arr:Array Keyed) (lo m:Nat):Prop:=∀ i j,i≤j→j < m→O.kle (kx kf arr (lo+j)) (kx kf arr (lo+i))
def Kept (lo:Nat) (st st':SortSt):Prop:=kindOf st'=kindOf st∧pendingOf st'=pendingOf st∧failedOf st'=failedOf st∧(arrOf st').Perm (arrOf st)∧∀ i,i < lo→(arrOf st')[i]?=(arrOf st)[i]?
theorem Kept.refl {lo:Nat}:Kept lo st st:=⟨rfl,rfl,rfl,.refl _,fun _ _=>rfl⟩
theorem Kept.trans {lo:Nat} {st' st2:SortSt} (h:Kept lo st st') (h2:Kept lo st' st2):Kept lo st st2:=⟨h2.1.trans h.1,h2.2.1.trans h.2.1,h2.2.2.1.trans h.2.2.1,h2.2.2.2.1.trans h.2.2.2.1,fun i hi=>(h2.2.2.2.2 i hi).trans (h.2.2.2.2 i hi)⟩
def AllD (D:Keyed→Prop) (arr:Array Keyed):Prop:=∀ x∈arr.toList,D x
theorem AllD.perm {a b:Array Keyed} (h:AllD D a) (p:b.Perm a):AllD D b:=fun x hx=>h x ((Array.perm_iff_toList_perm.mp p).mem_iff.mp hx)
theorem kx_congr {a b:Array Keyed} {i j:Nat} (h:a[i]?=b[j]?):kx kf a i=kx kf b j:=by
 unfold kx
 rw [Array.getD_eq_getD_getElem?,Array.getD_eq_getD_getElem?,h]
theorem wpS_ltAt2 {i j:Nat} {Q:Option Bool→SortSt→Prop} (hcm:Cmp prog w A s κ D (ltK kf)) (hk:kindOf st=κ) (hD:AllD D (arrOf st)) (hi:i < (arrOf st).size) (hj:j < (arrOf st).size) (h:Q (some (O.blt (kx kf (arrOf st) i) (kx kf (arrOf st) j))) st):wpS (model prog w) A E s (ltAt' i j) Q st:=by
 rw [ltAt'_eq]
 refine wpS_bind (wpS_get ?_)
 refine wpS_bind (wpS_elem hi fun x e1 f1=>wpS_bind (wpS_elem hj fun y e2 f2=>?_))
 rw [gdK _ hi] at e1
 rw [gdK _ hj] at e2
 cases e1
 cases e2
 exact wpS_cmp hcm hk (hD _ (List.mem_of_getElem? f1)) (hD _ (List.mem_of_getElem? f2)) h
theorem wpS_move {src dst:Nat} {Q:Unit→SortSt→Prop} (h:Q () (setArr st (bubble (arrOf st) src (src - dst)))):wpS (model prog w) A E s (moveDown' src dst) Q st:=by
 rw [moveDown'_eq]
 exact wpS_modify h
theorem kx_bubble {arr:Array Keyed} {src dst:Nat} (hs:src < arr.size) (hd:dst≤src) (i:Nat):kx kf (bubble arr src (src - dst)) i=if i=dst then kx kf arr src else if dst < i∧i≤src then kx kf arr (i - 1) else kx kf arr i:=by
 have e:=getElem?_bubble hs (src - dst) (by omega) i
 rw [show src - (src - dst)=dst by omega] at e
 split
 ·rename_i c; rw [if_pos c] at e; exact kx_congr e
 ·rename_i c
  rw [if_neg c] at e
  split
  ·rename_i c2; rw [if_pos c2] at e; exact kx_congr e
  ·rename_i c2; rw [if_neg c2] at e; exact kx_congr e
theorem pred_ltk {l j k:Nat} (h:l < j) (h2:j≤k):j - 1 < k:=by omega
section
variable {arr:Array Keyed} {lo k l i:Nat} (hs:lo+k < arr.size) (hd:l≤k)
include hs hd
theorem bub_lt (h:i < l):kx kf (bubble arr (lo+k) (lo+k - (lo+l))) (lo+i)=kx kf arr (lo+i):=by
 rw [kx_bubble hs (by omega),if_neg (by omega),if_neg (by omega)]
theorem bub_eq:kx kf (bubble arr (lo+k) (lo+k - (lo+l))) (lo+l)=kx kf arr (lo+k):=by
 rw [kx_bubble hs (by omega),if_pos rfl]
theorem bub_gt (h:l < i) (h2:i≤k):kx kf (bubble arr (lo+k) (lo+k - (lo+l))) (lo+i)=kx kf arr (lo+(i - 1)):=by
 rw [kx_bubble hs (by omega),if_neg (by omega),if_pos (by omega),Nat.add_sub_assoc (by omega)]
end
theorem wpS_binO {lo n ok:Nat} {Q:Bool→SortSt→Prop} (hcm:Cmp prog w A s κ D (ltK kf)) (hk:kindOf st=κ) (hD:AllD D (arrOf st)) (hn:lo+n≤(arrOf st).size) (hok:ok≤n) (hs:SoO kf (arrOf st) lo ok)
  (h:∀ st',Kept lo st st'→SoO kf (arrOf st') lo n→Q true st'):wpS (model prog w) A E s (binarySort' lo n ok) Q st:=by
 rw [binarySort'_eq]
 refine wpS_bind (wpS_mono (wpS_forRange (I:=fun k c st'=>c=(none,())∧Kept lo st st'∧SoO kf (arrOf st') lo (min k n))
  (Q:=fun c st'=>c=(none,())∧Kept lo st st'∧SoO kf (arrOf st') lo n) ?step ?fin ?init) ?post)
 case post =>
  rintro c st' ⟨rfl,hB',hs'⟩
  exact wpS_pure (h st' hB' hs')
 case init =>
  refine ⟨rfl,Kept.refl,fun i j hij hj=>?_⟩
  by_cases h1:ok=0
  ·have:i=j:=by omega
   subst this; exact KeyOrd.kle_refl _
  ·exact hs i j hij (by omega)
 case fin =>
  rintro c st' ⟨hc,hB',hs'⟩
  refine ⟨hc,hB',?_⟩
  rwa [show min (max (max ok 1) n) n=n by omega] at hs'
 case step =>
  rintro k c st' hak hkn ⟨rfl,hB',hs'⟩
  rw [show min k n=k by omega] at hs'
  have hz:lo+k < (arrOf st').size:=by have:=hB'.2.2.2.1.size_eq; omega
  have hD':=hD.perm hB'.2.2.2.1
  have hkn':min (k+1) n=k+1:=by omega
  clear hn hok hak hkn
  refine wpS_bind (wpS_mono (wpS_forRange (I:=fun x c st''=>st''=st'∧∃ l r,c=(none,l,r)∧l≤r∧r≤k∧r - l≤k - x ∧
    (∀ i,i < l→O.kle (kx kf (arrOf st') (lo+i)) (kx kf (arrOf st') (lo+k)))∧(∀ i,r≤i→i < k→O.kle (kx kf (arrOf st') (lo+k)) (kx kf (arrOf st') (lo+i))))
   (Q:=fun c st''=>st''=st'∧∃ l r,c=(none,l,r)∧l≤k ∧
    (∀ i,i < l→O.kle (kx kf (arrOf st') (lo+i)) (kx kf (arrOf st') (lo+k)))∧(∀ i,l≤i→i < k→O.kle (kx kf (arrOf st') (lo+k)) (kx kf (arrOf st') (lo+i)))) ?istep ?ifin ?iinit) ?ipost)
  case iinit=>exact ⟨rfl,0,k,rfl,by omega,by omega,by omega,fun i hi=>by omega,fun i h1 h2=>by omega⟩
  case ifin =>
   rintro c st'' ⟨rfl,l,r,rfl,hlr,hrk,hm,hlo,hhi⟩
   have:l=r:=by omega
   subst this
   exact ⟨rfl,l,l,rfl,hrk,hlo,hhi⟩
  case istep =>
   rintro x c st'' _ hxk ⟨rfl,l,r,rfl,hlr,hrk,hm,hlo,hhi⟩
   dsimp only
   by_cases hge:l ≥ r
   ·rw [if_pos hge]
    have:l=r:=by omega
    subst this
    exact wpS_pure ⟨rfl,l,l,rfl,hrk,hlo,hhi⟩
   ·rw [if_neg hge]
    refine wpS_bind (wpS_ltAt2 hcm (hB'.1.trans hk) hD' (by omega) (by omega) ?_)
    dsimp only
    cases hless:O.blt (kx kf (arrOf st'') (lo+k)) (kx kf (arrOf st'') (lo+(l+r) / 2)) with
    | true =>
     rw [if_pos rfl]
     refine wpS_pure ⟨rfl,l,(l+r) / 2,rfl,by omega,by omega,by omega,hlo,fun i h1 h2=>?_⟩
     exact KeyOrd.kle_trans (KeyOrd.kle_of_klt hless) (hs' _ _ h1 h2)
    | false =>
     rw [if_neg (by simp)]
     refine wpS_pure ⟨rfl,(l+r) / 2+1,r,rfl,by omega,by omega,by omega,fun i h1=>?_,hhi⟩
     exact KeyOrd.kle_trans (hs' i ((l+r) / 2) (by omega) (by omega)) hless
  case ipost =>
   rintro c st'' ⟨rfl,l,r,rfl,hlk,hlo,hhi⟩
   refine wpS_bind (wpS_move (wpS_pure ⟨rfl,hB'.trans ⟨rfl,rfl,rfl,bubble_perm _ _ _,fun i hi=>?_⟩,?_⟩))
   ·show (bubble (arrOf st'') (lo+k) (lo+k - (lo+l)))[i]?=_
    rw [getElem?_bubble hz _ (by omega),if_neg (by omega),if_neg (by omega)]
   rw [hkn']
   clear hkn'
   intro i j hij hj
   replace hj:j≤k:=Nat.le_of_lt_succ hj
   show O.kle (kx kf (bubble (arrOf st'') (lo+k) (lo+k - (lo+l))) (lo+i)) (kx kf (bubble (arrOf st'') (lo+k) (lo+k - (lo+l))) (lo+j))
   rcases Nat.lt_trichotomy i l with c | rfl | c
   ·rw [bub_lt hz hlk c]
    rcases Nat.lt_trichotomy j l with d | rfl | d
    ·rw [bub_lt hz hlk d]; exact hs' i j hij (Nat.lt_of_lt_of_le d hlk)
    ·rw [bub_eq hz hlk]; exact hlo i c
    ·rw [bub_gt hz hlk d hj]; exact hs' i (j - 1) (Nat.le_sub_one_of_lt (Nat.lt_trans c d)) (pred_ltk d hj)
   ·rw [bub_eq hz hlk]
    rcases Nat.lt_or_eq_of_le hij with d | rfl
    ·rw [bub_gt hz hlk d hj]; exact hhi (j - 1) (Nat.le_sub_one_of_lt d) (pred_ltk d hj)
    ·rw [bub_eq hz hlk]; exact KeyOrd.kle_refl _
   ·have d:=Nat.lt_of_lt_of_le c hij
    rw [bub_gt hz hlk c (Nat.le_trans hij hj),bub_gt hz hlk d hj]
    exact hs' (i - 1) (j - 1) (Nat.sub_le_sub_right hij 1) (pred_ltk d hj)
end
noncomputable def ascO (lo a nrem:Nat):StateT SortSt Sem AscSt:=forIn [a:nrem] ((none,a):AscSt) fun _ c=>ltAt' (lo+c.2) (lo+c.2 - 1) >>= fun r=>match r with
 | some sm=>(if sm=true then pure (.done (none,c.2)) else pure (.yield (none,c.2+1)))
 | _=>pure (.done (some none,c.2))
noncomputable def tail3O (lo n nrem:Nat):StateT SortSt Sem (Option Nat):=reverseSlice' lo (lo+n) >>= fun _=>ascO lo n nrem >>= fun c=>match c.1 with
 | some r=>pure r
 | none=>pure (some c.2)
noncomputable def descO (lo n nrem:Nat):StateT SortSt Sem DescSt:=forIn [n:nrem] ((none,n,0):DescSt) fun _ c=>ltAt' (lo+c.2.1) (lo+c.2.1 - 1) >>= fun r=>match r with
 | some sm=>(if sm=true then (if c.2.2 > 0 then reverseSlice' (lo+c.2.1 - (c.2.2+1)) (lo+c.2.1) >>= fun _=>pure (.yield (none,c.2.1+1,0)) else pure (.yield (none,c.2.1+1,0)))
  else ltAt' (lo+c.2.1 - 1) (lo+c.2.1) >>= fun r=>match r with
   | some lg=>(if lg=true then pure (.done (none,c.2.1,c.2.2)) else pure (.yield (none,c.2.1+1,c.2.2+1)))
   | _=>pure (.done (some none,c.2.1,c.2.2)))
 | _=>pure (.done (some none,c.2.1,c.2.2))
noncomputable def dpO (lo n nrem:Nat):StateT SortSt Sem (Option Nat):=liftM (rule "list.sort.descending-run") >>= fun _=>descO lo (n+1) nrem >>= fun c=>match c.1 with
 | some r=>pure r
 | none=>(if c.2.2 > 0 then reverseSlice' (lo+c.2.1 - (c.2.2+1)) (lo+c.2.1) >>= fun _=>tail3O lo c.2.1 nrem else tail3O lo c.2.1 nrem)
theorem countO_eq (lo nrem:Nat):countRun' lo nrem=(ascO lo 1 nrem >>= fun c=>match c.1 with
 | some r=>pure r
 | none=>(if (c.2 == nrem)=true then pure (some c.2) else if c.2 > 1 then ltAt' lo (lo+c.2 - 1) >>= fun r=>match r with
   | some rose=>(if rose=true then pure (some c.2) else reverseSlice' lo (lo+c.2) >>= fun _=>dpO lo c.2 nrem)
   | _=>pure none
  else dpO lo c.2 nrem)):=by
 have t3:∀ (n:Nat),(reverseSlice' lo (lo+n) >>= fun _=>ascO lo n nrem >>= fun c=>match c.1 with | some r=>pure r | none=>pure (some c.2))=tail3O lo n nrem:=fun n=>rfl
 rw [countRun'_eq]
 dsimp only
 refine congr (congrArg _ ?_) (funext fun c=>?_)
 ·rfl
 rcases c with ⟨_ | q,n⟩
 ·dsimp only
  have dp:∀ n:Nat,(liftM (rule "list.sort.descending-run") >>= fun _=>descO lo (n+1) nrem >>= fun c=>match c.1 with
    | some r=>pure r
    | none=>(if c.2.2 > 0 then reverseSlice' (lo+c.2.1 - (c.2.2+1)) (lo+c.2.1) >>= fun _=>tail3O lo c.2.1 nrem else tail3O lo c.2.1 nrem))=dpO lo n nrem:=fun n=>rfl
  have dq:∀ {β:Type} {m:StateT SortSt Sem β} {f g:β→StateT SortSt Sem (Option Nat)},(∀ c,f c=g c)→(m >>= f)=(m >>= g):=fun h=>congrArg _ (funext h)
  refine ite_congr rfl (fun _=>rfl) fun _=>ite_congr rfl (fun _=>?_) fun _=>?_
  ·refine dq fun r=>?_
   rcases r with _ | r
   ·rfl
   ·dsimp only
    refine ite_congr rfl (fun _=>rfl) fun _=>?_
    refine dq fun _=>?_
    rw [← dp]
    refine dq fun _=>?_
    refine congr (congrArg _ ?_) (funext fun c=>?_)
    ·rfl
    ·rcases c with ⟨_ | q,n,z⟩
     ·dsimp only
      refine ite_congr rfl (fun _=>?_) fun _=>?_
      ·refine dq fun _=>?_
       refine dq fun _=>?_
       refine congr (congrArg _ ?_) (funext fun c=>?_)
       ·rfl
       ·rcases c with ⟨_ | q,n⟩ <;> rfl
      ·refine dq fun _=>?_
       refine congr (congrArg _ ?_) (funext fun c=>?_)
       ·rfl
       ·rcases c with ⟨_ | q,n⟩ <;> rfl
     ·rfl
  ·rw [← dp]
   refine dq fun _=>?_
   refine congr (congrArg _ ?_) (funext fun c=>?_)
   ·rfl
   ·rcases c with ⟨_ | q,n,z⟩
    ·dsimp only
     refine ite_congr rfl (fun _=>?_) fun _=>?_
     ·refine dq fun _=>?_
      refine dq fun _=>?_
      refine congr (congrArg _ ?_) (funext fun c=>?_)
      ·rfl
      ·rcases c with ⟨_ | q,n⟩ <;> rfl
     ·refine dq fun _=>?_
      refine congr (congrArg _ ?_) (funext fun c=>?_)
      ·rfl
      ·rcases c with ⟨_ | q,n⟩ <;> rfl
    ·rfl
 ·rfl
section
variable {prog:Program} {w:World} {A:Around} {E:Value→Shared→Prop} {s:Shared} {κ:SortKind} {D:Keyed→Prop} {O:KeyOrd} {kf:Keyed→O.α} {st:SortSt}
theorem kx_mirror {arr:Array Keyed} {i j:Nat} (hj:j≤arr.size) (k:Nat):kx kf (mirror arr i j ((j - i) / 2)) k=if i≤k∧k < j then kx kf arr (i+j - 1 - k) else kx kf arr k:=by
 have e:=getElem?_mirror_all (i:=i) hj k
 split
 ·rename_i c; rw [if_pos c] at e; exact kx_congr e
 ·rename_i c; rw [if_neg c] at e; exact kx_congr e
theorem kx_mirror_eq {arr:Array Keyed} {i j:Nat} (hj:j≤arr.size) (he:∀ k,i≤k→k < j→kx kf arr k=kx kf arr (j - 1)) (k:Nat):kx kf (mirror arr i j ((j - i) / 2)) k=kx kf arr k:=by
 rw [kx_mirror hj]
 split
 ·rw [he _ (by omega) (by omega),he k (by omega) (by omega)]
 ·rfl
theorem Kept.rev {lo i j:Nat} (hi:lo≤i) (hj:j≤(arrOf st).size):Kept lo st (setArr st (mirror (arrOf st) i j ((j - i) / 2))):=⟨rfl,rfl,rfl,mirror_perm _ _ _ _,fun k hk=>by
 show (mirror (arrOf st) i j ((j - i) / 2))[k]?=_
 rw [getElem?_mirror_all hj,if_neg (by omega)]⟩
theorem wpS_ascO {lo a nrem:Nat} {Q:AscSt→SortSt→Prop} (hcm:Cmp prog w A s κ D (ltK kf)) (hk:kindOf st=κ) (hD:AllD D (arrOf st)) (hn:lo+nrem≤(arrOf st).size) (ha:1≤a) (han:a≤nrem) (hs:SoO kf (arrOf st) lo a)
  (h:∀ n,a≤n→n≤nrem→SoO kf (arrOf st) lo n→(n=nrem∨O.klt (kx kf (arrOf st) (lo+n)) (kx kf (arrOf st) (lo+(n - 1))))→Q (none,n) st):wpS (model prog w) A E s (ascO lo a nrem) Q st:=by
 unfold ascO
 refine wpS_forRange (I:=fun x c st'=>st'=st∧c=(none,x)∧SoO kf (arrOf st) lo x) ?step ?fin ⟨rfl,rfl,hs⟩
 case fin =>
  rintro c st' ⟨rfl,rfl,hs'⟩
  rw [Nat.max_eq_right han] at hs' ⊢
  exact h nrem han (Nat.le_refl _) hs' (.inl rfl)
 case step =>
  rintro x c st' hax hxn ⟨rfl,rfl,hs'⟩
  dsimp only
  replace ha:1≤x:=Nat.le_trans ha hax
  rw [show lo+x - 1=lo+(x - 1) by clear hn han hax hxn; omega]
  refine wpS_bind (wpS_ltAt2 hcm hk hD (by omega) (by omega) ?_)
  clear hn han
  dsimp only
  cases hless:O.blt (kx kf (arrOf st') (lo+x)) (kx kf (arrOf st') (lo+(x - 1))) with
  | true =>
   rw [if_pos rfl]
   exact wpS_pure (h x hax (by omega) hs' (.inr hless))
  | false =>
   rw [if_neg (by simp)]
   refine wpS_pure ⟨rfl,rfl,fun i j hij hj=>?_⟩
   by_cases hjx:j < x
   ·exact hs' i j hij hjx
   ·have hj':j=x:=by omega
    subst hj'
    by_cases hi':i=j
    ·subst hi'; exact KeyOrd.kle_refl _
    ·exact KeyOrd.kle_trans (hs' i (j - 1) (by omega) (by omega)) hless
theorem wpS_tail3O {lo n nrem:Nat} {Q:Option Nat→SortSt→Prop} (hcm:Cmp prog w A s κ D (ltK kf)) (hk:kindOf st=κ) (hD:AllD D (arrOf st)) (hn:lo+nrem≤(arrOf st).size) (h1:1≤n) (hnn:n≤nrem) (hs:NiO kf (arrOf st) lo n)
  (h:∀ m st',Kept lo st st'→1≤m→m≤nrem→SoO kf (arrOf st') lo m→Q (some m) st'):wpS (model prog w) A E s (tail3O lo n nrem) Q st:=by
 unfold tail3O
 refine wpS_bind (wpS_reverse ?_)
 have hK:Kept lo st (setArr st (mirror (arrOf st) lo (lo+n) ((lo+n - lo) / 2))):=Kept.rev (Nat.le_refl _) (by omega)
 refine wpS_bind (wpS_ascO hcm (hK.1.trans hk) (hD.perm hK.2.2.2.1) (by rw [hK.2.2.2.1.size_eq]; exact hn) h1 hnn (fun i j hij hj=>?_) fun m q1 q2 q3 _=>wpS_pure (h m _ hK (by omega) q2 q3))
 show O.kle (kx kf (mirror (arrOf st) lo (lo+n) ((lo+n - lo) / 2)) (lo+i)) (kx kf (mirror (arrOf st) lo (lo+n) ((lo+n - lo) / 2)) (lo+j))
 have hz:lo+n≤(arrOf st).size:=by omega
 rw [kx_mirror hz,kx_mirror hz]
 clear hn h1 hnn hz
 rw [if_pos (by omega),if_pos (by omega),show lo+(lo+n) - 1 - (lo+i)=lo+(n - 1 - i) by omega,show lo+(lo+n) - 1 - (lo+j)=lo+(n - 1 - j) by omega]
 exact hs _ _ (by omega) (by omega)
theorem wpS_descO {lo n nrem:Nat} {Q:DescSt→SortSt→Prop} (hcm:Cmp prog w A s κ D (ltK kf)) (hk:kindOf st=κ) (hD:AllD D (arrOf st)) (hn:lo+nrem≤(arrOf st).size) (h1:1≤n) (hnn:n≤nrem) (hs:NiO kf (arrOf st) lo n)
  (h:∀ m neq st',Kept lo st st'→n≤m→m≤nrem→NiO kf (arrOf st') lo m→neq+1≤m→(∀ i,lo+m - (neq+1)≤i→i < lo+m→kx kf (arrOf st') i=kx kf (arrOf st') (lo+m - 1))→Q (none,m,neq) st'):wpS (model prog w) A E s (descO lo n nrem) Q st:=by
 unfold descO
 refine wpS_forRange (I:=fun x c st'=>∃ neq,c=(none,x,neq)∧Kept lo st st'∧NiO kf (arrOf st') lo x∧neq+1≤x ∧
   (∀ i,lo+x - (neq+1)≤i→i < lo+x→kx kf (arrOf st') i=kx kf (arrOf st') (lo+x - 1))) ?step ?fin ⟨0,rfl,Kept.refl,hs,by omega,fun i h1 h2=>by congr 1; omega⟩
 case fin =>
  rintro c st' ⟨neq,rfl,hB',hs',hq,he⟩
  rw [Nat.max_eq_right hnn] at hs' hq he ⊢
  exact h nrem neq st' hB' hnn (Nat.le_refl _) hs' hq he
 case step =>
  rintro x c st' hax hxn ⟨neq,rfl,hB',hs',hq,he⟩
  dsimp only
  have hz:lo+x < (arrOf st').size:=by rw [hB'.2.2.2.1.size_eq]; exact Nat.lt_of_lt_of_le (Nat.add_lt_add_left hxn lo) hn
  have hD':=hD.perm hB'.2.2.2.1
  replace hxn:x≤nrem:=Nat.le_of_lt hxn
  have ex:HEq (lo+x - 1) (lo+(x - 1)):=heq_of_eq (by clear hn h1 hnn hax hxn hz; omega)
  have hz':lo+x - 1 < (arrOf st').size:=Nat.lt_of_le_of_lt (Nat.sub_le _ _) hz
  clear hn h1 hnn
  refine wpS_bind (wpS_ltAt2 hcm (hB'.1.trans hk) hD' hz hz' ?_)
  dsimp only
  rw [eq_of_heq ex] at he hz' ⊢
  cases hless:O.blt (kx kf (arrOf st') (lo+x)) (kx kf (arrOf st') (lo+(x - 1))) with
  | true =>
   rw [if_pos rfl]
   have step1:∀ xs:Array Keyed,(∀ k,kx kf xs k=kx kf (arrOf st') k)→NiO kf xs lo (x+1):=by
    intro xs hk i j hij hj
    rw [hk,hk]
    by_cases hjx:j < x
    ·exact hs' i j hij hjx
    ·have hj':j=x:=by omega
     subst hj'
     by_cases hi':i=j
     ·subst hi'; exact KeyOrd.kle_refl _
     ·exact KeyOrd.kle_trans (KeyOrd.kle_of_klt hless) (hs' i (j - 1) (by omega) (by omega))
   by_cases hneq:neq > 0
   ·rw [if_pos hneq]
    refine wpS_bind (wpS_reverse (wpS_pure ⟨0,rfl,hB'.trans (Kept.rev (by clear hz hz' ex hax hxn hneq; omega) (Nat.le_of_lt hz)),step1 _ (kx_mirror_eq (Nat.le_of_lt hz) (fun k q1 q2=>by rw [eq_of_heq ex]; exact he k q1 q2)),Nat.succ_pos _,fun i h1 h2=>by clear hz hz' ex hax hxn hneq hq; congr 1; omega⟩))
   ·rw [if_neg hneq]
    exact wpS_pure ⟨0,rfl,hB',step1 _ (fun _=>rfl),Nat.succ_pos _,fun i h1 h2=>by clear hz hz' ex hax hxn hneq hq; congr 1; omega⟩
  | false =>
   rw [if_neg (by simp)]
   refine wpS_bind (wpS_ltAt2 hcm (hB'.1.trans hk) hD' hz' hz ?_)
   dsimp only
   clear hz hz'
   cases hlarger:O.blt (kx kf (arrOf st') (lo+(x - 1))) (kx kf (arrOf st') (lo+x)) with
   | true =>
    rw [if_pos rfl]
    exact wpS_pure (h x neq st' hB' hax hxn hs' hq (by rw [eq_of_heq ex]; exact he))
   | false =>
    rw [if_neg (by simp)]
    have heqx:kx kf (arrOf st') (lo+x)=kx kf (arrOf st') (lo+(x - 1)):=KeyOrd.kle_antisymm hlarger hless
    clear hax hxn
    refine wpS_pure ⟨neq+1,rfl,hB',fun i j hij hj=>?_,by omega,fun i h1 h2=>?_⟩
    ·by_cases hjx:j < x
     ·exact hs' i j hij hjx
     ·have hj':j=x:=by omega
      subst hj'
      by_cases hi':i=j
      ·subst hi'; exact KeyOrd.kle_refl _
      ·rw [heqx]; exact hs' i (j - 1) (by omega) (by omega)
    ·rw [show lo+(x+1) - 1=lo+x by omega]
     by_cases hix:i=lo+x
     ·subst hix; rfl
     ·rw [heqx]; exact he i (by omega) (by omega)
theorem wpS_dpO {lo n nrem:Nat} {Q:Option Nat→SortSt→Prop} (hcm:Cmp prog w A s κ D (ltK kf)) (hk:kindOf st=κ) (hD:AllD D (arrOf st)) (hn:lo+nrem≤(arrOf st).size) (hnn:n+1≤nrem) (hs:NiO kf (arrOf st) lo (n+1))
  (h:∀ m st',Kept lo st st'→1≤m→m≤nrem→SoO kf (arrOf st') lo m→Q (some m) st'):wpS (model prog w) A E s (dpO lo n nrem) Q st:=by
 unfold dpO
 refine wpS_bind (wpS_rule ?_)
 refine wpS_bind (wpS_descO hcm hk hD hn (by omega) hnn hs fun m neq st' hB' hm1 hm2 hs' hq he=>?_)
 dsimp only
 have hz:=heq_of_eq (hB'.2.2.2.1.size_eq:(arrOf st').size=(arrOf st).size)
 have hz2:lo+m≤(arrOf st').size:=by rw [eq_of_heq hz]; exact Nat.le_trans (Nat.add_le_add_left hm2 lo) hn
 have hD':=hD.perm hB'.2.2.2.1
 by_cases hneq:neq > 0
 ·rw [if_pos hneq]
  have hK2:Kept lo st' (setArr st' (mirror (arrOf st') (lo+m - (neq+1)) (lo+m) ((lo+m - (lo+m - (neq+1))) / 2))):=Kept.rev (by omega) hz2
  refine wpS_bind (wpS_reverse (wpS_tail3O hcm (hK2.1.trans (hB'.1.trans hk)) (hD'.perm hK2.2.2.2.1) (by rw [hK2.2.2.2.1.size_eq,eq_of_heq hz]; exact hn) (by omega) hm2 (fun i j hij hj=>?_) fun m2 st2 k2=>h m2 st2 (hB'.trans (hK2.trans k2))))
  show O.kle (kx kf (mirror (arrOf st') _ _ _) _) (kx kf (mirror (arrOf st') _ _ _) _)
  rw [kx_mirror_eq hz2 he,kx_mirror_eq hz2 he]
  exact hs' i j hij hj
 ·rw [if_neg hneq]
  exact wpS_tail3O hcm (hB'.1.trans hk) hD' (by rw [eq_of_heq hz]; exact hn) (by omega) hm2 hs' fun m2 st2 k2=>h m2 st2 (hB'.trans k2)
theorem wpS_countO {lo nrem:Nat} {Q:Option Nat→SortSt→Prop} (hcm:Cmp prog w A s κ D (ltK kf)) (hk:kindOf st=κ) (hD:AllD D (arrOf st)) (hn:lo+nrem≤(arrOf st).size) (h1:1≤nrem)
  (h:∀ m st',Kept lo st st'→1≤m→m≤nrem→SoO kf (arrOf st') lo m→Q (some m) st'):wpS (model prog w) A E s (countRun' lo nrem) Q st:=by
 rw [countO_eq]
 refine wpS_bind (wpS_ascO hcm hk hD hn (Nat.le_refl 1) h1 (fun i j hij hj=>by have:i=j:=(by omega); subst this; exact KeyOrd.kle_refl _) fun n hn1 hn2 hsn hor=>?_)
 dsimp only
 by_cases hnn:n=nrem
 ·rw [if_pos (by simpa using hnn)]
  exact wpS_pure (h n st Kept.refl hn1 hn2 hsn)
 ·rw [if_neg (by simpa using hnn)]
  have hlt:O.klt (kx kf (arrOf st) (lo+n)) (kx kf (arrOf st) (lo+(n - 1))):=hor.resolve_left hnn
  replace hnn:n+1≤nrem:=by omega
  clear hor hn2 h1
  replace hn2:=Nat.le_of_succ_le hnn
  have hz:lo+n < (arrOf st).size:=Nat.lt_of_lt_of_le (Nat.add_lt_add_left hnn lo) hn
  by_cases hgt:n > 1
  ·rw [if_pos hgt]
   refine wpS_bind (wpS_ltAt2 hcm hk hD (by omega) (by omega) ?_)
   dsimp only
   have ex:lo+n - 1=lo+(n - 1):=by clear hn hnn hn2 hz; omega
   rw [ex]
   cases hrose:O.blt (kx kf (arrOf st) lo) (kx kf (arrOf st) (lo+(n - 1))) with
   | true =>
    rw [if_pos rfl]
    exact wpS_pure (h n st Kept.refl hn1 hn2 hsn)
   | false =>
    rw [if_neg (by simp)]
    have hn':=hn
    clear hn
    have hall:∀ k,k < n→kx kf (arrOf st) (lo+k)=kx kf (arrOf st) (lo+(n - 1)):=by
     intro k hk
     clear hz hnn hn2 ex
     have a1:=hsn 0 k (Nat.zero_le _) hk
     have a2:=hsn k (n - 1) (by omega) (by omega)
     exact KeyOrd.kle_antisymm a2 (KeyOrd.kle_trans hrose a1)
    have hmr:∀ k,kx kf (mirror (arrOf st) lo (lo+n) ((lo+n - lo) / 2)) k=kx kf (arrOf st) k:=kx_mirror_eq (Nat.le_of_lt hz) fun k q1 q2=>by
     rw [ex]
     clear hz hnn hn2 ex hn'
     have:=hall (k - lo) (by omega)
     rwa [show lo+(k - lo)=k by omega] at this
    have hK2:Kept lo st (setArr st (mirror (arrOf st) lo (lo+n) ((lo+n - lo) / 2))):=Kept.rev (Nat.le_refl _) (Nat.le_of_lt hz)
    refine wpS_bind (wpS_reverse (wpS_dpO hcm (hK2.1.trans hk) (hD.perm hK2.2.2.2.1) (by rw [hK2.2.2.2.1.size_eq]; exact hn') hnn (fun i j hij hj=>?_) fun m2 st2 k2=>h m2 st2 (hK2.trans k2)))
    show O.kle (kx kf (mirror (arrOf st) _ _ _) _) (kx kf (mirror (arrOf st) _ _ _) _)
    rw [hmr,hmr]
    clear hz hnn hn2 ex hn' hn1
    by_cases hjn:j < n
    ·rw [hall i (by omega),hall j hjn]; exact KeyOrd.kle_refl _
    ·have hj':j=n:=by omega
     subst hj'
     by_cases hi':i=j
     ·subst hi'; exact KeyOrd.kle_refl _
     ·rw [hall i (by omega)]; exact KeyOrd.kle_of_klt hlt
  ·rw [if_neg hgt]
   have hn1':n=1:=by omega
   subst hn1'
   refine wpS_dpO hcm hk hD hn hnn (fun i j hij hj=>?_) h
   clear hz hnn hn2 hn hn1 hgt
   by_cases hi':i=j
   ·subst hi'; exact KeyOrd.kle_refl _
   ·have hi0:i=0:=by omega
    have hj1:j=1:=by omega
    subst hi0; subst hj1
    exact KeyOrd.kle_of_klt hlt
end
noncomputable def offs:Nat→List (List Keyed)→List (Nat×Nat)
 | _,[]=>[]
 | o,r::rs=>(o,r.length)::offs (o+r.length) rs
theorem offs_append:∀ (o:Nat) (X Y:List (List Keyed)),offs o (X++Y)=offs o X++offs (o+X.flatten.length) Y
 | o,[],Y=>by simp [offs]
 | o,r::X,Y=>by
  simp only [List.cons_append,offs,offs_append (o+r.length) X Y,List.flatten_cons,List.length_append,Nat.add_assoc]
theorem offs_len:∀ (o:Nat) (X:List (List Keyed)),(offs o X).length=X.length
 | _,[]=>rfl
 | o,r::X=>by simp only [offs,List.length_cons,offs_len (o+r.length) X]
noncomputable abbrev ent (e:Nat×Nat×Nat):Nat×Nat:=(e.1,e.2.1)
section
variable {prog:Program} {w:World} {A:Around} {E:Value→Shared→Prop} {s:Shared} {κ:SortKind} {D:Keyed→Prop} {O:KeyOrd} {kf:Keyed→O.α} {st:SortSt} {a0:Array Keyed}
structure RI (kf:Keyed→O.α) (κ:SortKind) (a0:Array Keyed) (st:SortSt) (runs:List (List Keyed)) (rest:List Keyed):Prop where
 kind:kindOf st=κ
 failed:failedOf st=none
 perm:(arrOf st).Perm a0
 eq:(arrOf st).toList=runs.flatten++rest
 sorted:∀ r∈runs,r.Pairwise (leK kf)
 ne:∀ r∈runs,0 < r.length
 pend:(pendingOf st).toList.map ent=offs 0 runs
theorem RI.size {runs:List (List Keyed)} {rest:List Keyed} (h:RI kf κ a0 st runs rest):(pendingOf st).size=runs.length:=by
 rw [← Array.length_toList,← List.length_map (f:=ent),h.pend,offs_len]
theorem wpS_mergeRI {X Y:List (List Keyed)} {ra rb rest:List Keyed} {Q:Bool→SortSt→Prop} (hcm:Cmp prog w A s κ D (ltK kf)) (hD:AllD D a0) (h:RI kf κ a0 st (X++ra::rb::Y) rest)
  (q:∀ (st':SortSt) (M:List Keyed),RI kf κ a0 st' (X++M::Y) rest→M.length=ra.length+rb.length→Q true st'):wpS (model prog w) A E s (mergeAt' X.length) Q st:=by
 have hp:=h.pend
 rw [offs_append,offs,offs] at hp
 obtain ⟨l1,l2,e0,e1,e2⟩:=List.map_eq_append_iff.mp hp
 obtain ⟨x,l3,e3,e4,e5⟩:=List.map_eq_cons_iff.mp e2
 obtain ⟨y,l4,e6,e7,e8⟩:=List.map_eq_cons_iff.mp e5
 subst e3 e6
 obtain ⟨x1,x2,pw⟩:=x
 obtain ⟨y1,y2,pw2⟩:=y
 rw [Nat.zero_add] at e4 e7 e8
 have e4:(x1,x2)=(X.flatten.length,ra.length):=e4
 have e7:(y1,y2)=(X.flatten.length+ra.length,rb.length):=e7
 cases e4
 cases e7
 have hl1:l1.length=X.length:=by rw [← List.length_map (f:=ent),e1,offs_len]
 have g1:(pendingOf st)[X.length]?=some (X.flatten.length,ra.length,pw):=by
  rw [← Array.getElem?_toList,e0,List.getElem?_append_right (by omega),show X.length - l1.length=0 by omega]; rfl
 have g2:(pendingOf st)[X.length+1]?=some (X.flatten.length+ra.length,rb.length,pw2):=by
  rw [← Array.getElem?_toList,e0,List.getElem?_append_right (by omega),show X.length+1 - l1.length=1 by omega]; rfl
 have hrun:Runs2 kf D (arrOf st) X.flatten ra rb (Y.flatten++rest):=by
  refine ⟨?_,fun z hz=>(hD.perm h.perm) z hz,h.sorted _ (by simp),h.sorted _ (by simp),h.ne _ (by simp),h.ne _ (by simp)⟩
  rw [h.eq]
  simp [List.append_assoc]
 refine wpS_mergeAt hcm h.kind hrun g1 g2 h.failed fun st' M k1 k2 k3 k4 k5=>?_
 have hMl:M.length=ra.length+rb.length:=by rw [k4.1.length_eq,List.length_append]
 refine q st' M ⟨k1,k2,?_,?_,fun r hr=>?_,fun r hr=>?_,?_⟩ hMl
 ·refine Array.perm_iff_toList_perm.mpr ?_
  refine List.Perm.trans ?_ (Array.perm_iff_toList_perm.mp h.perm)
  rw [k5,hrun.eq]
  refine List.Perm.append_right _ ?_
  rw [List.append_assoc X.flatten]
  exact List.Perm.append_left _ k4.1
 ·rw [k5]; simp [List.append_assoc]
 ·rcases List.mem_append.mp hr with z | z
  ·exact h.sorted r (List.mem_append_left _ z)
  ·rcases List.mem_cons.mp z with rfl | z
   ·exact k4.2
   ·exact h.sorted r (List.mem_append_right _ (List.mem_cons_of_mem _ (List.mem_cons_of_mem _ z)))
 ·rcases List.mem_append.mp hr with z | z
  ·exact h.ne r (List.mem_append_left _ z)
  ·rcases List.mem_cons.mp z with rfl | z
   ·have:=h.ne ra (by simp); omega
   ·exact h.ne r (List.mem_append_right _ (List.mem_cons_of_mem _ (List.mem_cons_of_mem _ z)))
 ·rw [k3,Array.eraseIdxIfInBounds]
  have hz:(pendingOf st).size=X.length+(Y.length+2):=by rw [h.size]; simp
  rw [dif_pos (by rw [Array.size_setIfInBounds]; omega),Array.toList_eraseIdx,Array.toList_setIfInBounds,e0]
  rw [List.set_append_right _ _ (by omega),show X.length - l1.length=0 by omega,List.set_cons_zero]
  rw [List.eraseIdx_append_of_length_le (by omega),show X.length+1 - l1.length=1 by omega]
  show (l1++(X.flatten.length,ra.length+rb.length,pw)::l4).map ent=_
  rw [List.map_append,List.map_cons,e1,e8,offs_append,offs,Nat.zero_add,hMl]
  show _++(X.flatten.length,ra.length+rb.length)::_=_
  rw [Nat.add_assoc]
end
noncomputable def pushRun (lo n:Nat):StateT SortSt Sem (ForInStep (Option Unit×Nat)) :=
 (modify fun s=>setPending s ((pendingOf s).push (lo,n,0))) >>= fun _=>pure (.yield (none,lo+n))
noncomputable def joinBack (sz pw:Nat):StateT SortSt Sem (Option Unit×Unit) :=
 forIn [:sz] ((none,()):Option Unit×Unit) fun _ _=>get >>= fun g=>match (if (pendingOf g).size > 1 then (pendingOf g)[(pendingOf g).size - 2]? else none) with
  | some (_,_,older)=>(if older≤pw then pure (.done (none,())) else mergeAt' ((pendingOf g).size - 2) >>= fun b=>if (!b)=true then pure (.done (some (),())) else pure (.yield (none,())))
  | _=>pure (.done (none,()))
noncomputable def addRun (sz lo n:Nat):StateT SortSt Sem (ForInStep (Option Unit×Nat)):=get >>= fun g=>match (pendingOf g).back? with
 | some (s1,n1,_)=>joinBack sz (power' sz (2*s1+n1) (2*s1+n1+n1+n) sz) >>= fun c=>match c.1 with
  | some r=>pure (.done (some r,lo))
  | none=>(modify fun s=>setPending s ((pendingOf s).modify ((pendingOf s).size - 1) fun x=>(x.1,x.2.1,power' sz (2*s1+n1) (2*s1+n1+n1+n) sz))) >>= fun _=>pushRun lo n
 | _=>pushRun lo n
noncomputable def joinAll (sz:Nat):StateT SortSt Sem (Option Unit×Unit) :=
 forIn [:sz] ((none,()):Option Unit×Unit) fun _ _=>get >>= fun g=>if (pendingOf g).size≤1 then pure (.done (none,()))
  else mergeAt' (if Option.any (fun x=>decide (x < (pendingOf g)[(pendingOf g).size - 2+1]?.elim 0 fun x=>x.2.1)) (if (pendingOf g).size - 2 > 0 then Option.map (fun x=>x.2.1) (pendingOf g)[(pendingOf g).size - 2 - 1]? else none)=true then (pendingOf g).size - 2 - 1 else (pendingOf g).size - 2) >>= fun b=>if (!b)=true then pure (.done (some (),())) else pure (.yield (none,()))
section
variable {prog:Program} {w:World} {A:Around} {E:Value→Shared→Prop} {s:Shared} {κ:SortKind} {D:Keyed→Prop} {O:KeyOrd} {kf:Keyed→O.α} {st:SortSt} {a0:Array Keyed} {runs:List (List Keyed)} {rest:List Keyed}
theorem two_last {α:Type} {l:List α} (h:2≤l.length):∃ X a b,l=X++[a,b]∧X.length=l.length - 2:=by
 refine ⟨l.take (l.length - 2),l[l.length - 2],l[l.length - 1],?_,by rw [List.length_take]; omega⟩
 have e1:l.drop (l.length - 2)=[l[l.length - 2],l[l.length - 1]]:=by
  rw [List.drop_eq_getElem_cons (by omega),List.drop_eq_getElem_cons (by omega),List.drop_eq_nil_of_le (by omega)]
  congr 2
  congr 1
  omega
 rw [← e1,List.take_append_drop]
theorem wpS_joinBack {sz pw:Nat} {Q:Option Unit×Unit→SortSt→Prop} (hcm:Cmp prog w A s κ D (ltK kf)) (hD:AllD D a0) (h:RI kf κ a0 st runs rest)
  (q:∀ st' runs',RI kf κ a0 st' runs' rest→runs'.flatten.length=runs.flatten.length→runs'.length≤runs.length→Q (none,()) st'):wpS (model prog w) A E s (joinBack sz pw) Q st:=by
 unfold joinBack
 refine wpS_forRange (I:=fun _ c st'=>c=(none,())∧∃ runs',RI kf κ a0 st' runs' rest∧runs'.flatten.length=runs.flatten.length∧runs'.length≤runs.length) ?step (fun c st' ⟨e,r',h1,h2,h3⟩=>by rw [e]; exact q st' r' h1 h2 h3) ⟨rfl,runs,h,rfl,Nat.le_refl _⟩
 rintro x c st' _ _ ⟨rfl,r',h1,h2,h3⟩
 refine wpS_bind (wpS_get ?_)
 split
 ·rename_i older heq
  split
  ·exact wpS_pure (q st' r' h1 h2 h3)
  ·have hz:(pendingOf st').size > 1:=by
    refine Nat.lt_of_not_le fun z=>?_
    rw [if_neg (by omega)] at heq
    cases heq
   have hs:=h1.size
   obtain ⟨X,ra,rb,e1,e2⟩:=two_last (l:=r') (by omega)
   rw [e1] at h1
   rw [show (pendingOf st').size - 2=X.length by omega]
   refine wpS_bind (wpS_mergeRI hcm hD h1 fun st2 M k1 k2=>?_)
   rw [if_neg (by simp)]
   refine wpS_pure ⟨rfl,_,k1,?_,?_⟩
   ·rw [← h2,e1]; simp [k2]
   ·rw [e1] at h3; simp at h3 ⊢; omega
 ·exact wpS_pure (q st' r' h1 h2 h3)
theorem wpS_pushRun {lo n:Nat} {Q:ForInStep (Option Unit×Nat)→SortSt→Prop} {r:List Keyed} (h:RI kf κ a0 st runs (r++rest)) (hr:r.Pairwise (leK kf)) (hn:0 < n) (hl:r.length=n) (hlo:lo=runs.flatten.length)
  (q:∀ st',RI kf κ a0 st' (runs++[r]) rest→Q (.yield (none,lo+n)) st'):wpS (model prog w) A E s (pushRun lo n) Q st:=by
 unfold pushRun
 refine wpS_bind (wpS_modify (wpS_pure (q _ ⟨h.kind,h.failed,h.perm,?_,fun z hz=>?_,fun z hz=>?_,?_⟩)))
 ·show (arrOf st).toList=_
  rw [h.eq]; simp
 ·rcases List.mem_append.mp hz with y | y
  ·exact h.sorted z y
  ·rw [List.mem_singleton.mp y]; exact hr
 ·rcases List.mem_append.mp hz with y | y
  ·exact h.ne z y
  ·rw [List.mem_singleton.mp y,hl]; exact hn
 ·show ((pendingOf st).push (lo,n,0)).toList.map ent=_
  rw [Array.toList_push,List.map_append,h.pend,offs_append,Nat.zero_add,hlo,← hl]
  rfl
theorem map_modify {p:Array (Nat×Nat×Nat)} {i pw:Nat}:(p.modify i fun x=>(x.1,x.2.1,pw)).toList.map ent=p.toList.map ent:=by
 rw [Array.toList_modify]
 refine List.ext_getElem? fun j=>?_
 rw [List.getElem?_map,List.getElem?_map,List.getElem?_modify]
 cases p.toList[j]? with
 | none=>rfl
 | some x =>
  by_cases e:i=j
  ·simp [e]
  ·simp [e]
theorem wpS_addRun {sz lo n:Nat} {Q:ForInStep (Option Unit×Nat)→SortSt→Prop} {r:List Keyed} (hcm:Cmp prog w A s κ D (ltK kf)) (hD:AllD D a0) (h:RI kf κ a0 st runs (r++rest)) (hr:r.Pairwise (leK kf)) (hn:0 < n) (hl:r.length=n) (hlo:lo=runs.flatten.length)
  (q:∀ st' runs',RI kf κ a0 st' runs' rest→runs'.flatten.length=lo+n→runs'.length≤runs.length+1→Q (.yield (none,lo+n)) st'):wpS (model prog w) A E s (addRun sz lo n) Q st:=by
 unfold addRun
 refine wpS_bind (wpS_get ?_)
 split
 ·refine wpS_bind (wpS_joinBack hcm hD h fun st' runs' k1 k2 k3=>?_)
  dsimp only
  refine wpS_bind (wpS_modify ?_)
  refine wpS_pushRun (runs:=runs') (rest:=rest) ⟨k1.kind,k1.failed,k1.perm,k1.eq,k1.sorted,k1.ne,map_modify.trans k1.pend⟩ hr hn hl (by rw [k2]; exact hlo) fun st2 k4=>q st2 _ k4 ?_ ?_
  ·simp [k2,hl,hlo]
  ·simp; omega
 ·refine wpS_pushRun h hr hn hl hlo fun st2 k4=>q st2 _ k4 ?_ ?_
  ·simp [hl,hlo]
  ·simp
end
section
variable {prog:Program} {w:World} {A:Around} {E:Value→Shared→Prop} {s:Shared} {κ:SortKind} {D:Keyed→Prop} {O:KeyOrd} {kf:Keyed→O.α} {st:SortSt} {a0:Array Keyed} {runs:List (List Keyed)} {rest:List Keyed}
theorem at_split {α:Type} {l:List α} {i:Nat} (h:i+1 < l.length):∃ X a b Y,l=X++a::b::Y∧X.length=i:=by
 refine ⟨l.take i,l[i],l[i+1],l.drop (i+1+1),?_,by rw [List.length_take]; omega⟩
 rw [← List.drop_eq_getElem_cons (by omega),← List.drop_eq_getElem_cons (by omega),List.take_append_drop]
theorem wpS_joinAll {sz:Nat} {Q:Option Unit×Unit→SortSt→Prop} (hcm:Cmp prog w A s κ D (ltK kf)) (hD:AllD D a0) (h:RI kf κ a0 st runs rest) (hl:runs.length≤sz)
  (q:∀ st' runs',RI kf κ a0 st' runs' rest→runs'.length≤1→Q (none,()) st'):wpS (model prog w) A E s (joinAll sz) Q st:=by
 unfold joinAll
 refine wpS_forRange (I:=fun x c st'=>c=(none,())∧∃ runs',RI kf κ a0 st' runs' rest∧runs'.length+x≤sz+1) ?step (fun c st' ⟨e,r',h1,h2⟩=>by rw [e]; exact q st' r' h1 (by omega)) ⟨rfl,runs,h,by omega⟩
 rintro x c st' _ _ ⟨rfl,r',h1,h2⟩
 refine wpS_bind (wpS_get ?_)
 have hs:=h1.size
 split
 ·exact wpS_pure (q st' r' h1 (by omega))
 ·rename_i hz
  have go:∀ i,i+1 < r'.length→wpS (model prog w) A E s ((mergeAt' i >>= fun b=>if (!b)=true then pure (ForInStep.done (some (),())) else pure (ForInStep.yield (none,()))):StateT SortSt Sem (ForInStep (Option Unit×Unit))) (fun r st''=>match r with | ForInStep.done c'=>Q c' st'' | ForInStep.yield c'=>c'=(none,())∧∃ runs',RI kf κ a0 st'' runs' rest∧runs'.length+(x+1)≤sz+1) st':=fun i hi=>by
   obtain ⟨X,ra,rb,Y,e1,e2⟩:=at_split hi
   rw [e1] at h1 h2
   rw [← e2]
   refine wpS_bind (wpS_mergeRI hcm hD h1 fun st2 M k1 k2=>?_)
   rw [if_neg (by simp)]
   refine wpS_pure ⟨rfl,_,k1,?_⟩
   simp at h2 ⊢
   omega
  refine wpS_mono (go _ ?_) (fun r st'' hr=>by cases r <;> exact hr)
  by_cases hz3:(pendingOf st').size - 2 > 0
  ·rw [if_pos hz3]
   split <;> omega
  ·rw [if_neg hz3,if_neg (by simp)]
   omega
theorem RI.kept {st':SortSt} (h:RI kf κ a0 st runs rest) (k:Kept runs.flatten.length st st'):RI kf κ a0 st' runs ((arrOf st').toList.drop runs.flatten.length):=by
 refine ⟨k.1.trans h.kind,k.2.2.1.trans h.failed,k.2.2.2.1.trans h.perm,?_,h.sorted,h.ne,by rw [k.2.1]; exact h.pend⟩
 have e:(arrOf st').toList.take runs.flatten.length=runs.flatten:=by
  have e0:(arrOf st).toList.take runs.flatten.length=runs.flatten:=by rw [h.eq,List.take_left']; rfl
  rw [← e0]
  refine List.ext_getElem? fun i=>?_
  rw [List.length_take]
  by_cases hi:i < runs.flatten.length
  ·have hle:runs.flatten.length≤(arrOf st).toList.length:=by rw [h.eq,List.length_append]; omega
   rw [List.getElem?_take_of_lt (by omega),List.getElem?_take_of_lt hi,Array.getElem?_toList,Array.getElem?_toList]
   exact k.2.2.2.2 i hi
  ·rw [List.getElem?_eq_none (by rw [List.length_take]; omega),List.getElem?_eq_none (by rw [List.length_take]; omega)]
 rw [← List.take_append_drop runs.flatten.length (arrOf st').toList,e]
 congr 1
 rw [List.drop_append_of_le_length (Nat.le_refl _),List.drop_length,List.nil_append]
theorem so_pair {arr:Array Keyed} {lo n:Nat} (h:SoO kf arr lo n) (hn:lo+n≤arr.size):((arr.toList.drop lo).take n).Pairwise (leK kf):=by
 rw [List.pairwise_iff_getElem]
 intro i j hi hj hij
 rw [List.length_take,List.length_drop,Array.length_toList] at hi hj
 have q:=h i j (Nat.le_of_lt hij) (by omega)
 unfold leK
 have g:∀ k,k < n→kx kf arr (lo+k)=kf (arr[lo+k]?.getD (Value.none,Value.none)):=fun k _=>by unfold kx; rw [Array.getD_eq_getD_getElem?]
 rw [g i (by omega),g j (by omega),getElem?_pos arr _ (by omega),getElem?_pos arr _ (by omega)] at q
 simp only [List.getElem_take,List.getElem_drop,Array.getElem_toList]
 exact q
theorem runs_len:∀ {runs:List (List Keyed)},(∀ r∈runs,0 < r.length)→runs.length≤runs.flatten.length
 | [],_=>Nat.le_refl _
 | r::runs,h=>by
  have:=runs_len (runs:=runs) fun z hz=>h z (List.mem_cons_of_mem _ hz)
  have:=h r List.mem_cons_self
  simp only [List.length_cons,List.flatten_cons,List.length_append]
  omega
theorem wpS_congr {α:Type} {m m':StateT SortSt Sem α} {Q:α→SortSt→Prop} (e:m=m') (h:wpS (model prog w) A E s m' Q st):wpS (model prog w) A E s m Q st:=by rw [e]; exact h
theorem wpS_sortAll {Q:Unit→SortSt→Prop} (hcm:Cmp prog w A s κ D (ltK kf)) (hk:kindOf st=κ) (hD:AllD D (arrOf st)) (hp:pendingOf st=#[]) (hf:failedOf st=none)
  (q:∀ st':SortSt,(arrOf st').Perm (arrOf st)→failedOf st'=none→(arrOf st').toList.Pairwise (leK kf)→Q () st'):wpS (model prog w) A E s sortRuns' Q st:=by
 rw [sortRuns'_eq]
 refine wpS_bind (wpS_get ?_)
 dsimp only
 generalize hsz:(arrOf st).size=sz
 have h0:RI kf κ (arrOf st) st [] (arrOf st).toList:=⟨hk,hf,.refl _,rfl,(fun _ z=>nomatch z),(fun _ z=>nomatch z),by rw [hp]; rfl⟩
 have zz:∀ {st':SortSt} {runs:List (List Keyed)} {rest:List Keyed},RI kf κ (arrOf st) st' runs rest→(arrOf st').size=sz:=fun h=>by rw [h.perm.size_eq]; exact hsz
 have ll:∀ {st':SortSt} {runs:List (List Keyed)} {rest:List Keyed},RI kf κ (arrOf st) st' runs rest→runs.flatten.length+rest.length=sz:=fun h=>by
  have:=congrArg List.length h.eq
  rw [Array.length_toList,zz h,List.length_append] at this
  omega
 refine wpS_bind (wpS_mono (wpS_forRange (I:=fun x c st'=>c.1=none∧∃ runs rest,RI kf κ (arrOf st) st' runs rest∧c.2=runs.flatten.length∧x≤c.2)
  (Q:=fun c st'=>c.1=none∧∃ runs,RI kf κ (arrOf st) st' runs []∧runs.length≤sz) ?step ?fin ⟨rfl,[],_,h0,rfl,Nat.le_refl _⟩) ?post)
 case fin =>
  rintro c st' ⟨e1,runs,rest,h1,h2,h3⟩
  have:=ll h1
  have hr:rest=[]:=List.eq_nil_of_length_eq_zero (by omega)
  subst hr
  exact ⟨e1,runs,h1,by have:=runs_len h1.ne; omega⟩
 case step =>
  rintro x c st' _ hx ⟨e1,runs,rest,h1,h2,h3⟩
  obtain ⟨c1,lo⟩:=c
  dsimp only at e1 h2 h3 ⊢
  subst e1
  have hll:=ll h1
  have hzz:=zz h1
  by_cases hge:lo ≥ sz
  ·rw [if_pos hge]
   have hr:rest=[]:=List.eq_nil_of_length_eq_zero (by omega)
   subst hr
   exact wpS_pure ⟨rfl,runs,h1,by have:=runs_len h1.ne; omega⟩
  ·rw [if_neg hge]
   have hD':=hD.perm h1.perm
   have add:∀ (n:Nat) (st2:SortSt),Kept lo st' st2→0 < n→lo+n≤sz→SoO kf (arrOf st2) lo n→wpS (model prog w) A E s (addRun sz lo n) (fun r st''=>match r with | ForInStep.done c'=>c'.1=none∧∃ runs,RI kf κ (arrOf st) st'' runs []∧runs.length≤sz | ForInStep.yield c'=>c'.1=none∧∃ runs rest,RI kf κ (arrOf st) st'' runs rest∧c'.2=runs.flatten.length∧x+1≤c'.2) st2:=fun n st2 hK hn0 hn1 hso=>by
    rw [h2] at hK
    have hR:=h1.kept hK
    rw [← h2] at hR
    have hz2:=zz hR
    rw [← List.take_append_drop n ((arrOf st2).toList.drop lo)] at hR
    refine wpS_addRun hcm hD hR (so_pair hso (by omega)) hn0 (by rw [List.length_take,List.length_drop,Array.length_toList]; omega) h2 fun st3 r3 k1 k2 k3=>⟨rfl,r3,_,k1,k2.symm,by show x+1≤lo+n; omega⟩
   refine wpS_bind (wpS_countO hcm h1.kind hD' (by omega) (by omega) fun m st2 hK hm1 hm2 hso=>?_)
   dsimp only
   split
   ·refine wpS_bind (wpS_rule ?_)
    have hz2:(arrOf st2).size=sz:=by rw [hK.2.2.2.1.size_eq]; exact hzz
    refine wpS_bind (wpS_binO hcm (hK.1.trans h1.kind) (hD'.perm hK.2.2.2.1) (by omega) (by omega) hso fun st3 hK3 hso3=>?_)
    rw [if_neg (by simp)]
    refine wpS_congr (m':=addRun sz lo (min (sz - lo) (minRun' sz sz 0))) (by
     unfold addRun
     refine congrArg _ (funext fun g=>?_)
     rcases (pendingOf g).back? with _ | ⟨s1,n1,z⟩
     ·rfl
     ·dsimp only
      refine congr (congrArg _ ?_) (funext fun c=>?_)
      ·unfold joinBack
       refine congrArg _ (funext fun _=>funext fun _=>congrArg _ (funext fun g=>?_))
       generalize (if (pendingOf g).size > 1 then (pendingOf g)[(pendingOf g).size - 2]? else none)=o
       rcases o with _ | ⟨a,b,o⟩ <;> rfl
      ·rcases c with ⟨_ | q,c⟩ <;> rfl) (wpS_mono (add _ st3 (hK.trans hK3) (by omega) (by omega) hso3) fun r st'' hr=>by cases r <;> exact hr)
   ·refine wpS_congr (m':=addRun sz lo m) (by
     unfold addRun
     refine congrArg _ (funext fun g=>?_)
     rcases (pendingOf g).back? with _ | ⟨s1,n1,z⟩
     ·rfl
     ·dsimp only
      refine congr (congrArg _ ?_) (funext fun c=>?_)
      ·unfold joinBack
       refine congrArg _ (funext fun _=>funext fun _=>congrArg _ (funext fun g=>?_))
       generalize (if (pendingOf g).size > 1 then (pendingOf g)[(pendingOf g).size - 2]? else none)=o
       rcases o with _ | ⟨a,b,o⟩ <;> rfl
      ·rcases c with ⟨_ | q,c⟩ <;> rfl) (wpS_mono (add _ st2 hK (by omega) (by omega) hso) fun r st'' hr=>by cases r <;> exact hr)
 case post =>
  rintro c st' ⟨e1,runs,h1,h2⟩
  obtain ⟨c1,lo⟩:=c
  dsimp only at e1
  subst e1
  dsimp only
  refine wpS_bind (wpS_joinAll (sz:=sz) hcm hD h1 h2 fun st2 r2 k1 k2=>?_)
  dsimp only
  refine wpS_pure (q st2 k1.perm k1.failed ?_)
  rw [k1.eq,List.append_nil]
  match r2,k2,k1.sorted with
  | [],_,_=>exact .nil
  | [r],_,hs=>simpa using hs r (by simp)
  | _::_::_,k2,_=>simp at k2
end
noncomputable def rowOf (h:Heap) (v:Value):List Int:=match v with
 | .ref b=>match h.get? b with
  | some o=>match o.data with
   | .seq xs _=>xs.toList.map numOf
   | _=>[]
  | none=>[]
 | _=>[]
theorem rowOf_tup {h:Heap} {b:Addr} {its:Array Value} {r:List Int} (t:IsTup h b its) (i:IntsAre its.toList r):rowOf h (.ref b)=r:=by
 obtain ⟨o,h1,h2,n,h3⟩:=t
 unfold rowOf
 simp only [h1,h3]
 exact i.nums
theorem perm_map_inv {α β:Type} {f:α→β} {os ls:List β} (h:os.Perm ls):∀ {T:List α},ls=T.map f→∃ T':List α,T'.Perm T∧T'.map f=os:=by
 induction h with
 | nil=>intro T e; cases T with | nil=>exact ⟨[],.nil,rfl⟩ | cons _ _=>cases e
 | cons x _ ih =>
  intro T e
  cases T with
  | nil=>cases e
  | cons t T =>
   injection e with e1 e2
   obtain ⟨T',h1,h2⟩:=ih e2
   exact ⟨t::T',h1.cons t,by rw [List.map_cons,h2,e1]⟩
 | swap x y l =>
  intro T e
  match T,e with
  | a::b::T,e =>
   injection e with e1 e2
   injection e2 with e2 e3
   exact ⟨b::a::T,.swap a b T,by rw [List.map_cons,List.map_cons,e1,e2,e3]⟩
 | trans _ _ ih1 ih2 =>
  intro T e
  obtain ⟨T',h1,h2⟩:=ih2 e
  obtain ⟨T2,h3,h4⟩:=ih1 h2.symm
  exact ⟨T2,h3.trans h1,h4⟩
section
variable {prog:Program} {w:World} {A:Around} {E:Value→Shared→Prop} {s:Shared}
noncomputable def kfH (h:Heap):Keyed→OL.α:=fun x=>(rowOf h x.1:List Int)
def DH (h:Heap) (x:Keyed):Prop:=∃ b its r,x.1=Value.ref b∧IsTup h b its∧IntsAre its.toList r
theorem cmpH:Cmp prog w A s (tuples' true) (DH s.heap) (ltK (kfH s.heap)):=by
 rintro ⟨x,x'⟩ ⟨y,y'⟩ C ⟨b,its,r,e1,t1,i1⟩ ⟨b',its',r',e2,t2,i2⟩ hc
 dsimp only at e1 e2
 subst e1 e2
 have hc:C (HT.lexLt (rowOf s.heap (.ref b)) (rowOf s.heap (.ref b'))) s:=hc
 rw [rowOf_tup t1 i1,rowOf_tup t2 i2] at hc
 obtain ⟨o,q1,q2,n,q3⟩:=t1
 obtain ⟨o',q1',q2',n',q3'⟩:=t2
 refine kat_lt q1 q3 q1' q3' (katlex_ints 0 i1 i2 ?_)
 have l1:its.size=r.length:=by rw [← Array.length_toList]; exact i1.length
 have l2:its'.size=r'.length:=by rw [← Array.length_toList]; exact i2.length
 rw [l1,l2,lexF_lex]
 exact hc
theorem list_sort_any {a:Addr} {vs:List Value} {rss:LLI} {n:Nat} {P:Fin→Shared→Prop} (ho:s.heap.get? a=some (seqObj "list" vs.toArray n)) (T:TupsAre s.heap vs rss) (hw:∀ r∈rss,0 < r.length) (hz:vs.length≤sizeLine)
  (h:∀ os:List Value,os.Perm vs→os.Pairwise (fun x y=>HT.lexLt (rowOf s.heap y) (rowOf s.heap x)=false)→P (.done (.ret .none)) { s with heap:=sortedHeap s.heap a vs os.toArray }) :
  wpAny (model prog w) A (Builtin.«list.sort» ⟨[.ref a],[]⟩) P E s:=by
 rw [list_sort_plain]
 have ha:a < s.heap.objs.size:=Heap.lt_size ho
 refine wpAny_bind (listItems_at ho rfl ?_)
 refine wpAny_bind (listUpdate_at ho rfl ?_ (by rw [List.size_toArray]; omega) (Nat.zero_le _))
 obtain ⟨e1,ho1⟩:∃ e1,(s.heap.update a (Obj.mapSeq fun _=>#[])).get? a=some (seqObj "list" #[] e1):=⟨_,get?_update_seq ho (fun _=>#[])⟩
 refine wpAny_bind (seqEpoch_at ho1 rfl ?_)
 refine wpAny_bind (wpAny_newTuple ?_ (by show vs.length≤_; omega))
 refine wpAny_bind (wpAny_newList ?_ (Nat.zero_le _))
 refine wpAny_holding ?_
 have ho6:(((s.heap.update a (Obj.mapSeq fun _=>#[])).push (seqObj "tuple" vs.toArray 0)).push (seqObj "list" #[] 0)).get? a=some (seqObj "list" #[] e1):=by
  rw [Heap.get?_push_ne _ _ _ (by rw [size_push',Heap.size_update]; exact Nat.ne_of_lt (Nat.lt_succ_of_lt ha)),Heap.get?_push_ne _ _ _ (by rw [Heap.size_update]; exact Nat.ne_of_lt ha)]
  exact ho1
 have keepT:∀ b its,IsTup s.heap b its→IsTup (((s.heap.update a (Obj.mapSeq fun _=>#[])).push (seqObj "tuple" vs.toArray 0)).push (seqObj "list" #[] 0)) b its:=fun b its ⟨o,q1,q2,q3⟩=>by
  have hb:b≠a:=fun z=>by
   rw [z,ho] at q1
   cases q1
   have q2:Value.type "list" = Value.type "tuple" := q2
   injection q2 with q2
   exact absurd q2 (by decide)
  refine ⟨o,?_,q2,q3⟩
  exact Heap.get?_push_of_some _ (Heap.get?_push_of_some _ (by rw [Heap.get?_update_ne _ _ _ _ hb]; exact q1))
 have T6:=T.keeps keepT
 show wpAny (model prog w) A _ P E { s with heap:=((s.heap.update a (Obj.mapSeq fun _=>#[])).push (seqObj "tuple" vs.toArray 0)).push (seqObj "list" #[] 0) }
 have rowEq:∀ v∈vs,rowOf (((s.heap.update a (Obj.mapSeq fun _=>#[])).push (seqObj "tuple" vs.toArray 0)).push (seqObj "list" #[] 0)) v=rowOf s.heap v:=fun v hv=>by
  obtain ⟨i,hi⟩:=List.mem_iff_getElem?.mp hv
  obtain ⟨r,b,its,_,e2,e3,e4⟩:=T.2 i v hi
  rw [e2,rowOf_tup e3 e4,rowOf_tup (keepT b its e3) e4]
 generalize hH6:((s.heap.update a (Obj.mapSeq fun _=>#[])).push (seqObj "tuple" vs.toArray 0)).push (seqObj "list" #[] 0)=H6 at ho6 T6 rowEq
 dsimp only
 have fin:∀ os:List Value,os.Perm vs→os.Pairwise (fun x y=>HT.lexLt (rowOf s.heap y) (rowOf s.heap x)=false)→P (.done (.ret .none)) { s with heap:=H6.update a (Obj.mapSeq fun _=>os.toArray) }:=fun os h1 h2=>by
  have:=h os h1 h2
  unfold sortedHeap at this
  rw [hH6] at this
  exact this
 by_cases h2:vs.toArray.size < 2
 ·have h2':vs.length < 2:=by simpa using h2
  rw [if_pos h2,if_pos h2]
  refine wpAny_bind (wpAny_pure ?_)
  rw [StateT.run_pure]
  refine wpAny_bind (wpAny_pure ?_)
  dsimp only
  refine wpAny_bind (seqEpoch_at ho6 rfl ?_)
  refine wpAny_bind (listUpdate_at ho6 rfl ?_ (Nat.zero_le _) (by rw [Array.size_map]; show (pairsOf vs).size≤_; rw [pairsOf_size]; omega))
  simp only [bne_self_eq_false,Bool.false_eq_true,if_false]
  have e:((vs.toArray.zip vs.toArray).map (·.2))=vs.toArray:=by
   apply Array.toList_inj.mp
   simp [List.map_snd_zip]
  show wpAny _ _ _ _ _ { s with heap:=H6.update a (Obj.mapSeq fun _=>(vs.toArray.zip vs.toArray).map (·.2)) }
  rw [e]
  refine wpAny_pure (fin vs (.refl _) ?_)
  rw [List.pairwise_iff_getElem]
  intro i j hi hj hij
  omega
 ·have h2':2≤vs.length:=by
   have:¬ vs.length < 2:=by simpa using h2
   omega
  rw [if_neg h2,if_neg h2]
  refine wpAny_bind (tups_kind T6 hw (by omega) ?_)
  have hDH:AllD (DH H6) (vs.toArray.zip vs.toArray):=fun x hx=>by
   have hx':x∈vs.zip vs:=by simpa using hx
   obtain ⟨_,hm⟩:=mem_zip_self hx'
   obtain ⟨i,hi⟩:=List.mem_iff_getElem?.mp hm
   obtain ⟨r,b,its,_,e2,e3,e4⟩:=T6.2 i _ hi
   exact ⟨b,its,r,e2,e3,e4⟩
  refine wpAny_bind (wpAny_mono (wpS_sortAll (s:={ s with heap:=H6 }) (st:=SortSt.mk' (tuples' true) (vs.toArray.zip vs.toArray) #[] 7 none) (kf:=kfH H6) (D:=DH H6) (cmpH (s:={ s with heap:=H6 })) rfl hDH rfl rfl
   (Q:=fun _ st'=>(arrOf st').Perm (vs.toArray.zip vs.toArray)∧failedOf st'=none∧(arrOf st').toList.Pairwise (leK (kfH H6))) fun st' q1 q2 q3=>⟨q1,q2,q3⟩) ?_ fun _ _ e=>e)
  rintro ⟨⟨⟩,st'⟩ s' ⟨rfl,hp,hf,hs⟩
  dsimp only at hp hf hs ⊢
  have hpl:(arrOf st').toList.Perm (vs.zip vs):=by
   have:=Array.perm_iff_toList_perm.mp hp
   simpa using this
  have hos:((arrOf st').toList.map (·.2)).Perm vs:=by
   have:=hpl.map Prod.snd
   rwa [List.map_snd_zip (Nat.le_refl _)] at this
  have hsame:∀ x∈(arrOf st').toList,x.1=x.2∧x.1∈vs:=fun x hx=>mem_zip_self (hpl.mem_iff.mp hx)
  have e:(arrOf st').map (·.2)=((arrOf st').toList.map (·.2)).toArray:=by
   apply Array.toList_inj.mp
   simp
  refine wpAny_bind (seqEpoch_at ho6 rfl ?_)
  rw [e]
  refine wpAny_bind (listUpdate_at ho6 rfl ?_ (Nat.zero_le _) (by rw [List.size_toArray,hos.length_eq]; omega))
  rw [hf]
  simp only [bne_self_eq_false,Bool.false_eq_true,if_false]
  refine wpAny_pure (fin _ hos ?_)
  rw [List.pairwise_map]
  refine hs.imp_of_mem fun {x y} hx hy hxy=>?_
  have h1:=hsame x hx
  have h2:=hsame y hy
  rw [← h1.1,← h2.1,← rowEq _ h1.2,← rowEq _ h2.2]
  exact hxy
theorem call_sorted_any {x:Value} {vs:List Value} {rss:LLI} {Q:Value→Shared→Prop} (hcol:∀ (A':Around) (E':Value→Shared→Prop) (Q':List Value→Shared→Prop),(∀ h1:Heap,(∀ b o,s.heap.get? b=some o→h1.get? b=some o)→Q' vs { s with heap:=h1 })→wpAny (model prog w) A' (collect x) Q' E' s)
  (T:TupsAre s.heap vs rss) (hw:∀ r∈rss,0 < r.length) (hz:vs.length≤sizeLine)
  (h:∀ (h1 h':Heap) (os:List Value) (c:Nat),(∀ b o,s.heap.get? b=some o→h1.get? b=some o)→(∀ b o,h1.get? b=some o→h'.get? b=some o)→h'.get? h1.objs.size=some (seqObj "list" os.toArray c)→os.Perm vs→os.Pairwise (fun x y=>HT.lexLt (rowOf s.heap y) (rowOf s.heap x)=false)→Q (.ref h1.objs.size) { s with heap:=h' }) :
  wpAny (model prog w) A (call (.builtin "sorted") [x]) Q E s:=by
 refine Calls.call_function_entry kind_sorted plain_sorted entry_sorted (args_sorted1 _) ?_
 unfold Builtin.«sorted»
 refine wpAny_bind (m:=checkCount "sorted" 1 1 _) (wpAny_pure ?_)
 refine wpAny_bind (hcol _ _ _ fun h1 k1=>?_)
 refine wpAny_bind (wpAny_newList ?_ (by omega))
 have hoL:(h1.push (seqObj "list" vs.toArray 0)).get? h1.objs.size=some (seqObj "list" vs.toArray 0):=Heap.get?_push_size _ rfl
 have keepT:∀ b its,IsTup s.heap b its→IsTup (h1.push (seqObj "list" vs.toArray 0)) b its:=fun b its ⟨o,q1,q2⟩=>⟨o,Heap.get?_push_of_some _ (k1 _ _ q1),q2⟩
 have T2:=T.keeps keepT
 have rowEq:∀ v∈vs,rowOf (h1.push (seqObj "list" vs.toArray 0)) v=rowOf s.heap v:=fun v hv=>by
  obtain ⟨i,hi⟩:=List.mem_iff_getElem?.mp hv
  obtain ⟨r,b,its,_,e2,e3,e4⟩:=T.2 i v hi
  rw [e2,rowOf_tup e3 e4,rowOf_tup (keepT b its e3) e4]
 show wpAny _ _ _ _ _ { s with heap:=h1.push (seqObj "list" vs.toArray 0) }
 refine wpAny_bind (wpAny_holding (wpAny_call_entry slot_list_sort ⟨_,hoL,rfl⟩ entry_list_sort (list_sort_any (s:={ s with heap:=h1.push (seqObj "list" vs.toArray 0) }) hoL T2 hw hz fun os hp hs=>⟨_,rfl,?_⟩) (args_list_sort _)))
 obtain ⟨c,hc⟩:=sortedHeap_at (out:=os.toArray) hoL
 refine wpAny_pure ⟨_,rfl,h h1 _ os c k1 (fun b o e=>?_) hc hp (hs.imp_of_mem fun {x y} hx hy hxy=>?_)⟩
 ·exact sortedHeap_keep b o (Nat.ne_of_lt (Heap.lt_size e)) (Heap.get?_push_of_some _ e)
 ·rw [← rowEq _ (hp.mem_iff.mp hx),← rowEq _ (hp.mem_iff.mp hy)]
  exact hxy
end
def rSortA (K:PySem.W.Frag):RL:=fun xs H Q=>∃ (p:Addr) (ys:List V) (rss:LLI),xs=[.ref p]∧(SqL K H p ys∨SqT K H p ys)∧Its H ys rss∧(∀ r∈rss,0 < r.length) ∧
 ∀ l zs tss,H l=none→Its H zs tss→tss.Perm rss→Rises tss→zs.Perm ys→Q (.ref l) (upd H l (.lst zs))
theorem vals_zip3:∀ {ys:List V} {us:List Value} {rss:LLI},Vals ys us→ys.length=rss.length→∃ T:List (Value×V×List Int),T.map (·.1)=us∧T.map (·.2.1)=ys∧T.map (·.2.2)=rss∧∀ (i:Nat) t,T[i]?=some t→RelV t.2.1 t.1∧ys[i]?=some t.2.1∧rss[i]?=some t.2.2
 | [],us,rss,r,e=>by
  cases r
  cases rss with
  | nil=>exact ⟨[],rfl,rfl,rfl,fun i t h=>by simp at h⟩
  | cons _ _=>cases e
 | y::ys,us,rss,r,e=>by
  cases r with
  | cons h hs =>
   cases rss with
   | nil=>cases e
   | cons r rss =>
    obtain ⟨T,e1,e2,e3,e4⟩:=vals_zip3 hs (by simpa using e)
    refine ⟨(_,y,r)::T,by rw [List.map_cons,e1],by rw [List.map_cons,e2],by rw [List.map_cons,e3],fun i t ht=>?_⟩
    cases i with
    | zero=>cases ht; exact ⟨h,rfl,rfl⟩
    | succ i=>exact e4 i t ht
theorem vals_of_map:∀ {T:List (Value×V×List Int)},(∀ t∈T,RelV t.2.1 t.1)→Vals (T.map (·.2.1)) (T.map (·.1))
 | [],_=>.nil
 | t::T,h=>.cons (h t List.mem_cons_self) (vals_of_map fun u hu=>h u (List.mem_cons_of_mem _ hu))
section
variable {X:Cx}
theorem call_sortA (K:PySem.W.Frag) (hK:X.K=K:=by rfl):CallR X (.builtin "sorted") (rSortA K):=by
 subst hK
 intro pins s σ H xs us Q I rv h
 obtain ⟨p,ys,rss,rfl,hq,hI,hw,q⟩:=h
 obtain ⟨u,rfl,ru⟩:=rv.one
 cases ru
 obtain ⟨its,ri,hz,hcol⟩:∃ its:List Value,Vals ys its∧ys.length≤sizeLine∧∀ (A':Around) (E':Value→Shared→Prop) (Q':List Value→Shared→Prop),(∀ h1:Heap,(∀ b o,s.heap.get? b=some o→h1.get? b=some o)→Q' its { s with heap:=h1 })→wpAny (model X.prog X.w) A' (collect (.ref p)) Q' E' s:=by
  rcases hq with hq | hq
  ·obtain ⟨its,r',pl,hz⟩:=I.list hq
   obtain ⟨o,ho,hc,n,hd⟩:=pl.isList
   have hlen:=r'.length
   exact ⟨its,r',hz,fun A' E' Q' k=>wpAny_collect_seq p (.inl rfl) ho hc hd (fun h' k'=>k h' k') (by simp only [List.size_toArray]; omega)⟩
  ·obtain ⟨its,r',pl,hz⟩:=I.tuple hq
   obtain ⟨o,ho,hc,n,hd⟩:=pl
   have hlen:=r'.length
   exact ⟨its,r',hz,fun A' E' Q' k=>wpAny_collect_seq p (.inr rfl) ho hc hd (fun h' k'=>k h' k') (by simp only [List.size_toArray]; omega)⟩
 have hl:=ri.length
 have TT:=its_tups I hI ri
 obtain ⟨T,t1,t2,t3,t4⟩:=vals_zip3 ri hI.1
 refine call_sorted_any hcol TT hw (by omega) fun h1 h' os c k1 k2 e hp hs=>?_
 obtain ⟨T',p1,p2⟩:=perm_map_inv (f:=fun t:Value×V×List Int=>t.1) hp t1.symm
 have I1:=I.kept (t':=s.toks) k1
 have hT:∀ t∈T',RelV t.2.1 t.1∧IT H t.2.1 t.2.2∧rowOf s.heap t.1=t.2.2:=fun t ht=>by
  obtain ⟨i,hi⟩:=List.mem_iff_getElem?.mp (p1.mem_iff.mp ht)
  obtain ⟨r1,r2,r3⟩:=t4 i t hi
  obtain ⟨row,q1,q2⟩:=hI.2 i _ r2
  rw [r3] at q1
  cases q1
  have e5:its[i]?=some t.1:=by rw [← t1,List.getElem?_map,hi]; rfl
  obtain ⟨r',b,its',f1,f2,f3,f4⟩:=TT.2 i _ e5
  rw [r3] at f1
  cases f1
  exact ⟨r1,q2,by rw [f2]; exact rowOf_tup f3 f4⟩
 have hzp:(T'.map (·.2.1)).Perm ys:=by rw [← t2]; exact p1.map _
 have hv:Vals (T'.map (·.2.1)) os:=by rw [← p2]; exact vals_of_map fun t ht=>(hT t ht).1
 have I2:=I1.laid (h':=h') (a:=h1.objs.size) (o:=.lst (T'.map (·.2.1))) (t':=s.toks) k2 (Nat.le_refl _) ⟨by rw [hzp.length_eq]; exact hz,os,c,hv,e⟩
 refine ⟨.ref h1.objs.size,_,I2,rfl,q _ _ (T'.map (·.2.2)) (I1.hok.fresh (Nat.le_refl _)) ⟨by rw [List.length_map,List.length_map],fun i v ei=>?_⟩ (by rw [← t3]; exact p1.map _) ?_ hzp⟩
 ·rw [List.getElem?_map] at ei ⊢
  cases e2:T'[i]? with
  | none=>rw [e2] at ei; cases ei
  | some t =>
   rw [e2] at ei
   cases ei
   exact ⟨t.2.2,rfl,(hT t (List.mem_of_getElem? e2)).2.1⟩
 ·unfold Rises
  rw [List.pairwise_map]
  rw [← p2,List.pairwise_map] at hs
  refine hs.imp_of_mem fun {x y} hx hy hxy=>?_
  rw [(hT x hx).2.2,(hT y hy).2.2] at hxy
  exact hxy
theorem jc_sortA (K:PySem.W.Frag) {e:Expr} {t:TA} {p pos:Pos} (hg:Gl X "sorted") (hm:X.mg "sorted" = none) (ha:JA X [e] t) (hK:X.K=K:=by rfl) (he:starEach [e] X.env=(false,eval e X.env)::starEach [] X.env:=by rfl) (hpl:(backTo pos (starEach [] X.env)).any (·.1)=false:=by rfl):JE X (.Call (.Name "sorted" p) [e] [] pos) (tCB (rSortA K) t):=⟨pe_callB (call_sortA K hK) hg hm bb_sorted ha.h (by decide) (by decide) he hpl⟩
end
def DRaw (h:Heap) (d:Addr) (es:Array DictEntry) (ep:Nat):Prop:=∃ ob:Obj,h.get? d=some ob∧ob.ExactDict∧ob.data=.dict es ep
theorem DRaw.typ {s:Shared} {d:Addr} {es:Array DictEntry} {ep:Nat} (x:DRaw s.heap d es ep):s.TypeIs (.ref d) "dict" := by
 obtain ⟨ob,e1,e2,_⟩:=x
 exact ⟨ob,e1,e2.1⟩
theorem DRaw.lt {h:Heap} {d:Addr} {es:Array DictEntry} {ep:Nat} (x:DRaw h d es ep):d < h.objs.size:=by
 obtain ⟨ob,e1,_⟩:=x
 exact Heap.lt_size e1
theorem DRaw.to {h h':Heap} {d:Addr} {es:Array DictEntry} {ep:Nat} (x:DRaw h d es ep) (k:∀ ob,h.get? d=some ob→h'.get? d=some ob):DRaw h' d es ep:=by
 obtain ⟨ob,e1,q⟩:=x
 exact ⟨ob,k _ e1,q⟩
section
variable {prog:Program} {w:World} {A:Around} {E:Value→Shared→Prop} {s:Shared} {it d:Addr} {i ep:Nat} {es:Array DictEntry}
theorem raw_iter {Q:Value→Shared→Prop} (hs:(d == sysModules)=false) (D:DRaw s.heap d es ep)
  (q:Q (.ref s.heap.objs.size) { s with heap:=s.heap.push { cls:=.type "dict_keyiterator",data:=.fields #[.ref d,.int 0 0,.int es.size 0,.int ep 0] } }):wpAny (model prog w) A (pyIter (.ref d)) Q E s:=by
 have ty:=D.typ
 obtain ⟨ob,e1,_,e3⟩:=D
 refine wpAny_pyIter_slot ty PySem.F.slot_dict_iter (wpAny_call_entry PySem.F.slot_dict_iter ty PySem.F.entry_dict_iter ?body (PySem.F.args_dict_iter_1 _))
 case body =>
  unfold Builtin.«dict.__iter__» Builtin.Dict.dictSlotNone
  refine wpAny_bind (wpAny_bind (wpAny_notOrdered_dict ty (wpAny_pure ?_)))
  show wpAny _ _ (Builtin.Dict.showsAll d >>= fun _=>_) _ _ _
  unfold Builtin.Dict.showsAll
  rw [if_neg (fun z=>by rw [hs] at z; cases z)]
  refine wpAny_bind (wpAny_pure (wpAny_bind (wpAny_dictEntries e1 e3 (wpAny_bind (wpAny_dictEpoch e1 e3 ?_)))))
  refine wpAny_bind (wpAny_newObj_type (wpAny_pure ⟨_,rfl, "dict_keyiterator",_,⟨_,Heap.get?_push_size _ rfl,rfl⟩,PySem.F.slot_dict_keyiterator_next.lookup,?_⟩))
  exact q
theorem raw_item {Q:Option Value→Shared→Prop} (I:s.heap.IsKeyIter it d i es.size ep) (D:DRaw s.heap d es ep) (hi:i < es.size)
  (q:∀ h',h'.IsKeyIter it d (i+1) es.size ep→Heap.SameBut it s.heap h'→Q (some es[i].key) { s with heap:=h' }):wpAny (model prog w) A (pyNext (.ref it)) Q E s:=by
 obtain ⟨oi,f1,f2,f3⟩:=id I
 obtain ⟨od,e1,e2,e3⟩:=D
 unfold pyNext
 refine wpAny_bind (wpAny_attempt (wpAny_callSpecial?_slot (name:=Str.ofString "__next__") I.typeIs PySem.F.slot_dict_keyiterator_next (wpAny_call_entry PySem.F.slot_dict_keyiterator_next I.typeIs PySem.F.entry_dict_keyiterator_next ?body (PySem.F.args_dict_keyiterator_next_1 _))))
 case body =>
  refine wpAny_bind (wpAny_pure (wpAny_bind (wpAny_bind ?_)))
  first | refine wpAny_bind (wpAny_typeNameOfWhole_keyiter I.typeIs (wpAny_pure ?_)) | refine wpAny_bind (wpAny_typeNameOf_keyiter I.typeIs (wpAny_pure ?_))
  refine wpAny_bind (wpAny_fieldsOf f1 f3 ?_)
  rw [show Builtin.Dict_items.ownsTuple "dict_keyiterator" = false by decide,if_neg Bool.false_ne_true]
  show wpAny _ _ (if (Value.ref d == Value.none)=true then _ else _) _ _ _
  have hnn:¬ ((Value.ref d == Value.none)=true):=Bool.false_ne_true
  rw [if_neg hnn]
  refine wpAny_bind (wpAny_pure (wpAny_bind (wpAny_dictEntries e1 e3 ?_)))
  rw [if_neg (by simp)]
  refine wpAny_bind (wpAny_pure (wpAny_bind (wpAny_dictEpoch e1 e3 ?_)))
  rw [if_neg (by simp)]
  refine wpAny_pure ?_
  dsimp only
  rw [show (if (i:Int) < 0 then (none:Option DictEntry) else es[(i:Int).toNat]?)=some es[i] by rw [if_neg (by omega),Int.toNat_natCast,Array.getElem?_eq_getElem hi]]
  dsimp only
  refine wpAny_bind ?_
  first | refine wpAny_bind (wpAny_typeNameOfWhole_keyiter I.typeIs (wpAny_pure ?_)) | refine wpAny_bind (wpAny_typeNameOf_keyiter I.typeIs (wpAny_pure ?_))
  refine wpAny_bind (wpAny_isOneOf_keyiter I.typeIs ?_)
  show wpAny _ _ (setField (.ref it) 1 (rawInt ((i:Int)+1)) >>= fun _=>_) _ _ _
  have I':(s.heap.update it (Obj.mapFields fun z=>z.setIfInBounds 1 (rawInt ((i:Int)+1)))).IsKeyIter it d (i+1) es.size ep :=
   ⟨_,Heap.get?_update_self _ f1 (Obj.isFreed_of_fields (Obj.data_mapFields f3 _)),(Obj.cls_mapFields ..).trans f2,by rw [Obj.data_mapFields f3]; simp [rawInt]⟩
  refine wpAny_bind (wpAny_setField f1 f3 (by simp) (wpAny_bind (wpAny_holding ?_)))
  refine wpAny_bind (wpAny_isOneOf_keyiter (s:={ s with heap:=s.heap.update it (Obj.mapFields fun z=>z.setIfInBounds 1 (rawInt ((i:Int)+1))) }) I'.typeIs ?_)
  exact wpAny_pure (wpAny_pure ⟨_,rfl,wpAny_pure (q _ I' (Heap.SameBut.update ..))⟩)
theorem raw_end {Q:Option Value→Shared→Prop} (hh:A.handled=none) (I:s.heap.IsKeyIter it d i es.size ep) (D:DRaw s.heap d es ep) (hi:es.size≤i)
  (q:∀ h',Heap.ExtBut it s.heap h'→Q none { s with heap:=h' }):wpAny (model prog w) A (pyNext (.ref it)) Q E s:=by
 obtain ⟨oi,f1,f2,f3⟩:=id I
 obtain ⟨od,e1,e2,e3⟩:=D
 unfold pyNext
 refine wpAny_bind (wpAny_attempt (wpAny_callSpecial?_slot (name:=Str.ofString "__next__") I.typeIs PySem.F.slot_dict_keyiterator_next (wpAny_call_entry PySem.F.slot_dict_keyiterator_next I.typeIs PySem.F.entry_dict_keyiterator_next ?body (PySem.F.args_dict_keyiterator_next_1 _))))
 case body =>
  refine wpAny_bind (wpAny_pure (wpAny_bind (wpAny_bind ?_)))
  first | refine wpAny_bind (wpAny_typeNameOfWhole_keyiter I.typeIs (wpAny_pure ?_)) | refine wpAny_bind (wpAny_typeNameOf_keyiter I.typeIs (wpAny_pure ?_))
  refine wpAny_bind (wpAny_fieldsOf f1 f3 ?_)
  rw [show Builtin.Dict_items.ownsTuple "dict_keyiterator" = false by decide,if_neg Bool.false_ne_true]
  show wpAny _ _ (if (Value.ref d == Value.none)=true then _ else _) _ _ _
  have hnn:¬ ((Value.ref d == Value.none)=true):=Bool.false_ne_true
  rw [if_neg hnn]
  refine wpAny_bind (wpAny_pure (wpAny_bind (wpAny_dictEntries e1 e3 ?_)))
  rw [if_neg (by simp)]
  refine wpAny_bind (wpAny_pure (wpAny_bind (wpAny_dictEpoch e1 e3 ?_)))
  rw [if_neg (by simp)]
  refine wpAny_pure ?_
  dsimp only
  rw [show (if (i:Int) < 0 then (none:Option DictEntry) else es[(i:Int).toNat]?)=none by rw [if_neg (by omega),Int.toNat_natCast,Array.getElem?_eq_none hi]]
  dsimp only
  refine wpAny_bind ?_
  first | refine wpAny_bind (wpAny_typeNameOfWhole_keyiter I.typeIs (wpAny_pure ?_)) | refine wpAny_bind (wpAny_typeNameOf_keyiter I.typeIs (wpAny_pure ?_))
  show wpAny _ _ (setField (.ref it) 0 .none >>= fun _=>_) _ _ _
  refine wpAny_bind (wpAny_setField f1 f3 (by simp) ?_)
  show wpAny _ _ (newExc (.type "StopIteration") [] >>= fun _=>_) _ _ _
  refine wpAny_bind ?_
  simp only [newExc,newTuple]
  refine wpAny_bind (wpAny_newObj_type ?_ (by size_fits))
  refine wpAny_bind (m:=firstArgMember _ _) (wpAny_of_eq (a:=Value.none) (by first | rfl | (simp only [firstArgMember]; rfl)) ?_)
  refine wpAny_newObj_type ?_ (by size_fits)
  simp only [raiseNew]
  refine wpAny_bind (wpAny_handled ?_)
  rw [show A.in1.handled=none from hh]
  refine wpAny_bind (wpAny_pure (wpAny_throw ?_))
  refine wpAny_bind (wpAny_isInstance (T := "StopIteration") (b:=true) ⟨_,Heap.get?_push_size _ rfl,rfl⟩ isSubtype_stop ?_)
  exact wpAny_pure (q _ (((Heap.SameBut.update ..).extBut.push _).push _))
theorem raw_walks (hh:A.handled=none) (J d:Addr) (hne:d≠J) (es:Array DictEntry) (ep:Nat) :
  Walks prog w A J [J,d] [J] es.size (fun i v=>∃ e,es[i]?=some e∧v=e.key) (fun i h=>h.IsKeyIter J d i es.size ep∧DRaw h d es ep) where
 sub:=fun b hb=>by rw [List.mem_singleton.mp hb]; exact List.mem_cons_self
 frame:=fun i h h' st hk=>⟨st.1.at fun o e=>hk J List.mem_cons_self o e,st.2.to fun o e=>hk d (List.mem_cons_of_mem _ List.mem_cons_self) o e⟩
 item:=fun i s Q E hi st hQ=>raw_item st.1 st.2 hi fun h' I' sb=>hQ _ h' s.toks ⟨es[i],by simp [hi],rfl⟩ ⟨I',st.2.to fun o e=>sb.extBut d o hne e⟩ fun b o hb e=>sb.extBut b o (fun z=>hb (by rw [z]; exact List.mem_cons_self)) e
 done:=fun s Q E st hQ=>raw_end hh st.1 st.2 (Nat.le_refl _) fun h' eb=>hQ h' s.toks fun b o hb e=>eb b o (fun z=>hb (by rw [z]; exact List.mem_cons_self)) e
 self:=fun _ _ _ _ st hQ=>wpAny_pyIter_keyiter st.1 hQ
theorem raw_src (hs:(d == sysModules)=false) (es:Array DictEntry) (ep:Nat):KdlSrc prog w "dict" d d es.size (fun i v=>∃ e,es[i]?=some e∧v=e.key) (fun h=>DRaw h d es ep) where
 type:=fun _ D=>D.typ
 there:=fun _ D=>⟨D.lt,D.lt⟩
 keep:=fun _ _ D hk=>D.to fun o e=>hk d (.inl rfl) o e
 notList:=by decide
 notTuple:=by decide
 hint:=fun _ _ _ _ D q=>kdl_hint_dict D.typ q
 iter:=fun _ _ hh D=>⟨_,_,fun _ _ q=>raw_iter hs D q,raw_walks hh _ d (Nat.ne_of_lt D.lt) es ep,⟨⟨_,Heap.get?_push_size _ rfl,rfl,rfl⟩,D.to fun o e=>Heap.get?_push_of_some _ e⟩⟩
end
section
variable {prog:Program} {w:World} {A:Around} {E:Value→Shared→Prop} {s:Shared}
theorem call_sorted_tok {x:Value} {vs:List Value} {rss:LLI} {Q:Value→Shared→Prop} (hcol:∀ (E':Value→Shared→Prop) (Q':List Value→Shared→Prop),(∀ (h1:Heap) (tk:Nat),(∀ b o,s.heap.get? b=some o→h1.get? b=some o)→Q' vs { s with heap:=h1,toks:=tk })→wpAny (model prog w) A.in1 (collect x) Q' E' s)
  (T:TupsAre s.heap vs rss) (hw:∀ r∈rss,0 < r.length) (hz:vs.length≤sizeLine)
  (h:∀ (h1 h':Heap) (os:List Value) (c tk:Nat),(∀ b o,s.heap.get? b=some o→h1.get? b=some o)→(∀ b o,h1.get? b=some o→h'.get? b=some o)→h'.get? h1.objs.size=some (seqObj "list" os.toArray c)→os.Perm vs→os.Pairwise (fun x y=>HT.lexLt (rowOf s.heap y) (rowOf s.heap x)=false)→Q (.ref h1.objs.size) { s with heap:=h',toks:=tk }) :
  wpAny (model prog w) A (call (.builtin "sorted") [x]) Q E s:=by
 refine Calls.call_function_entry kind_sorted plain_sorted entry_sorted (args_sorted1 _) ?_
 unfold Builtin.«sorted»
 refine wpAny_bind (m:=checkCount "sorted" 1 1 _) (wpAny_pure ?_)
 refine wpAny_bind (hcol _ _ fun h1 tk k1=>?_)
 refine wpAny_bind (wpAny_newList ?_ (by omega))
 have hoL:(h1.push (seqObj "list" vs.toArray 0)).get? h1.objs.size=some (seqObj "list" vs.toArray 0):=Heap.get?_push_size _ rfl
 have keepT:∀ b its,IsTup s.heap b its→IsTup (h1.push (seqObj "list" vs.toArray 0)) b its:=fun b its ⟨o,q1,q2⟩=>⟨o,Heap.get?_push_of_some _ (k1 _ _ q1),q2⟩
 have T2:=T.keeps keepT
 have rowEq:∀ v∈vs,rowOf (h1.push (seqObj "list" vs.toArray 0)) v=rowOf s.heap v:=fun v hv=>by
  obtain ⟨i,hi⟩:=List.mem_iff_getElem?.mp hv
  obtain ⟨r,b,its,_,e2,e3,e4⟩:=T.2 i v hi
  rw [e2,rowOf_tup e3 e4,rowOf_tup (keepT b its e3) e4]
 show wpAny _ _ _ _ _ { s with heap:=h1.push (seqObj "list" vs.toArray 0),toks:=tk }
 refine wpAny_bind (wpAny_holding (wpAny_call_entry slot_list_sort ⟨_,hoL,rfl⟩ entry_list_sort (list_sort_any (s:={ s with heap:=h1.push (seqObj "list" vs.toArray 0),toks:=tk }) hoL T2 hw hz fun os hp hs=>⟨_,rfl,?_⟩) (args_list_sort _)))
 obtain ⟨c,hc⟩:=sortedHeap_at (out:=os.toArray) hoL
 refine wpAny_pure ⟨_,rfl,h h1 _ os c tk k1 (fun b o e=>?_) hc hp (hs.imp_of_mem fun {x y} hx hy hxy=>?_)⟩
 ·exact sortedHeap_keep b o (Nat.ne_of_lt (Heap.lt_size e)) (Heap.get?_push_of_some _ e)
 ·rw [← rowEq _ (hp.mem_iff.mp hx),← rowEq _ (hp.mem_iff.mp hy)]
  exact hxy
end
noncomputable def IK (rss:LLI):List (List Key):=rss.map fun r=>r.map Sum.inl
def rSortD:RL:=fun xs H Q=>∃ (d:Addr) (kvs:List (List Key×V)) (rss:LLI),xs=[.ref d]∧H d=some (.dT kvs)∧kvs.map (·.1)=IK rss∧(∀ r∈rss,0 < r.length) ∧
 ∀ l zs tss,H l=none→Its H zs tss→tss.Perm rss→Rises tss→Q (.ref l) (upd H l (.lst zs))
theorem kt_rows {H:Hp}:∀ {kvs:List (List Key×V)} {xs:List (List Key×Addr×Value)} {rss:LLI},KT H kvs xs→kvs.map (·.1)=IK rss→Its H (xs.map fun x=>V.ref x.2.1) rss∧xs.length=rss.length:=by
 intro kvs xs rss r e
 induction r generalizing rss with
 | nil =>
  cases rss with
  | nil=>exact ⟨⟨rfl,fun i v z=>by simp at z⟩,rfl⟩
  | cons _ _=>cases e
 | @cons p q ps qs h _ ih =>
  cases rss with
  | nil=>cases e
  | cons r rss =>
   injection e with e1 e2
   obtain ⟨h1,h2⟩:=ih e2
   refine ⟨⟨by rw [List.length_map,List.length_cons,List.length_cons,h2],fun i v hv=>?_⟩,by rw [List.length_cons,List.length_cons,h2]⟩
   cases i with
   | zero =>
    cases hv
    refine ⟨r,rfl,q.2.1,rfl,?_⟩
    have h3:=h.2.1
    have e1:p.1=r.map Sum.inl:=e1
    rw [e1,List.map_map] at h3
    exact h3
   | succ i=>exact h1.2 i v hv
theorem vals_refA {α:Type} (f:α→Addr):∀ xs:List α,Vals (xs.map fun x=>V.ref (f x)) (xs.map fun x=>Value.ref (f x))
 | []=>.nil
 | x::xs=>.cons rfl (vals_refA f xs)
section
variable {X:Cx}
theorem call_sortD (hc:X.calm=true):CallR X (.builtin "sorted") rSortD:=by
 intro pins s σ H xs us Q I rv h
 obtain ⟨d,kvs,rss,rfl,hd,hk,hw,q⟩:=h
 obtain ⟨u,rfl,ru⟩:=rv.one
 cases ru
 obtain ⟨hz,hsys,ts,kt,ob,es,ep,e1,e2,e3,e4,e5⟩:=I.hok _ _ hd
 obtain ⟨hI,hlen⟩:=kt_rows kt hk
 have hkl:kvs.length=ts.length:=Paired.length kt
 have esz:es.size=ts.length:=by rw [← Array.length_toList,e4,List.length_map]
 have D:DRaw s.heap d es ep:=⟨ob,e1,e2,e3⟩
 have ri:Vals (ts.map fun x=>V.ref x.2.1) (ts.map fun x=>Value.ref x.2.1):=vals_refA (fun x:List Key×Addr×Value=>x.2.1) ts
 have hcol:∀ (E':Value→Shared→Prop) (Q':List Value→Shared→Prop),(∀ (h1:Heap) (tk:Nat),(∀ b o,s.heap.get? b=some o→h1.get? b=some o)→Q' (ts.map fun x=>Value.ref x.2.1) { s with heap:=h1,toks:=tk })→wpAny (model X.prog X.w) X.A.in1 (collect (.ref d)) Q' E' s:=fun E' Q' k=>by
  refine kdu_collect (raw_src hsys es ep) (show X.A.in1.handled=none from I.ok.hd hc) D (by omega) fun h' tk acc kp hit=>?_
  have:acc.toList=ts.map fun x=>Value.ref x.2.1:=by
   refine List.ext_getElem? fun i=>?_
   rw [Array.getElem?_toList,List.getElem?_map]
   by_cases hi:i < ts.length
   ·have hia:i < acc.size:=by rw [hit.1,esz]; exact hi
    obtain ⟨e,he,hv⟩:=hit.2 i acc[i] (by simp [hia])
    have he':es.toList[i]?=some e:=by rw [Array.getElem?_toList]; exact he
    rw [e4,List.getElem?_map,List.getElem?_eq_getElem hi] at he'
    injection he' with he'
    rw [Array.getElem?_eq_getElem hia,List.getElem?_eq_getElem hi,hv,← he']
    rfl
   ·rw [Array.getElem?_eq_none (by rw [hit.1,esz]; omega),List.getElem?_eq_none (by omega)]
    rfl
  rw [this]
  exact k h' tk kp
 have hl:=ri.length
 have TT:=its_tups I hI ri
 obtain ⟨T,t1,t2,t3,t4⟩:=vals_zip3 ri hI.1
 refine call_sorted_tok hcol TT hw (by rw [List.length_map]; omega) fun h1 h' os c tk k1 k2 e hp hs=>?_
 obtain ⟨T',p1,p2⟩:=perm_map_inv (f:=fun t:Value×V×List Int=>t.1) hp t1.symm
 have I1:=I.kept (t':=tk) k1
 have hT:∀ t∈T',RelV t.2.1 t.1∧IT H t.2.1 t.2.2∧rowOf s.heap t.1=t.2.2:=fun t ht=>by
  obtain ⟨i,hi⟩:=List.mem_iff_getElem?.mp (p1.mem_iff.mp ht)
  obtain ⟨r1,r2,r3⟩:=t4 i t hi
  obtain ⟨row,q1,q2⟩:=hI.2 i _ r2
  rw [r3] at q1
  cases q1
  have e5:(ts.map fun x=>Value.ref x.2.1)[i]?=some t.1:=by rw [← t1,List.getElem?_map,hi]; rfl
  obtain ⟨r',b,its',f1,f2,f3,f4⟩:=TT.2 i _ e5
  rw [r3] at f1
  cases f1
  exact ⟨r1,q2,by rw [f2]; exact rowOf_tup f3 f4⟩
 have hzl:(T'.map (·.2.1)).length≤sizeLine:=by
  have e6:=(p1.map (fun t:Value×V×List Int=>t.2.1)).length_eq
  rw [t2] at e6
  simp only [List.length_map] at e6 ⊢
  omega
 have hv:Vals (T'.map (·.2.1)) os:=by rw [← p2]; exact vals_of_map fun t ht=>(hT t ht).1
 have I2:=I1.laid (h':=h') (a:=h1.objs.size) (o:=.lst (T'.map (·.2.1))) (t':=tk) k2 (Nat.le_refl _) ⟨hzl,os,c,hv,e⟩
 refine ⟨.ref h1.objs.size,_,I2,rfl,q _ _ (T'.map (·.2.2)) (I1.hok.fresh (Nat.le_refl _)) ⟨by rw [List.length_map,List.length_map],fun i v ei=>?_⟩ (by rw [← t3]; exact p1.map _) ?_⟩
 ·rw [List.getElem?_map] at ei ⊢
  cases e2:T'[i]? with
  | none=>rw [e2] at ei; cases ei
  | some t =>
   rw [e2] at ei
   cases ei
   exact ⟨t.2.2,rfl,(hT t (List.mem_of_getElem? e2)).2.1⟩
 ·unfold Rises
  rw [List.pairwise_map]
  rw [← p2,List.pairwise_map] at hs
  refine hs.imp_of_mem fun {x y} hx hy hxy=>?_
  rw [(hT x hx).2.2,(hT y hy).2.2] at hxy
  exact hxy
end
end L2
namespace L2
open PySem PySem.Spec PyProof.Rows
def CDivG (i j:Int):Prop:=0 < j∧j < 2 ^ 64
variable {X:Cx}
theorem op_fdivG:OpR X (binaryOp .FloorDiv) (rI CDivG fun i j=>.int (i / j)):=opI fun i j _ _ _ _ _ hc q=>by
 have h1:(0:Int) < j:=hc.1
 have h2:j < 2 ^ 64:=hc.2
 refine floordiv_int (by omega) (by rw [Int.fdiv_eq_ediv_of_nonneg i (by omega)]; exact q) (.inl (PyProof.noPylong_of_log2 ?_))
 have:j.natAbs.log2 < 64:=(Nat.log2_lt (by omega)).mpr (by omega)
 omega
theorem j_fdivG {a b:Expr} {ta tb:TE} {pos:Pos} (ha:JE X a ta) (hb:JE X b tb):JE X (.BinOp a .FloorDiv b pos) (tOp (rI CDivG fun i j=>.int (i / j)) ta tb):=⟨pe_op op_fdivG ha.h hb.h⟩
end L2
namespace L2
open PySem PySem.Spec PyProof.Rows PySem.W
section
variable {prog:Program} {w:World} {A:Around} {E:Value→Shared→Prop} {s:Shared} {d:Addr} {ep:Nat} {es:Array DictEntry}
theorem raw_len {Q:Value→Shared→Prop} (hs:(d == sysModules)=false) (D:DRaw s.heap d es ep) (hz:(es.size:Int) < 2 ^ 63)
  (q:Q (.int es.size (s.toks+1)) { s with toks:=s.toks+1+1 }):wpAny (model prog w) A (call (.builtin "len") [.ref d]) Q E s:=by
 refine Calls.call_function_entry kind_len plain_len entry_len (args_len1 _) ?_
 have ty:=D.typ
 obtain ⟨ob,e1,_,e3⟩:=D
 unfold Builtin.«len»
 refine wpAny_bind (m:=oneArg "len" _) (wpAny_pure ?_)
 refine wpAny_bind (m:=callSpecial? (.ref d) (Str.ofString "__len__")) (wpAny_callSpecial?_slot (name:=Str.ofString "__len__") ty PySem.F.slot_dict_len (wpAny_call_entry PySem.F.slot_dict_len ty PySem.F.entry_dict_len ?body (PySem.F.args_dict_len_1 _)))
 case body =>
  show wpAny _ _ (dictSize d >>= fun n=>_) _ _ _
  unfold dictSize
  refine wpAny_bind (wpAny_bind (wpAny_dictEntries e1 e3 (wpAny_pure ?_)))
  show wpAny _ _ (Builtin.Dict.pendingCount d >>= fun n=>_) _ _ _
  refine wpAny_bind (wpAny_pendingCount_other hs (wpAny_ret_mkInt ?_))
  show wpAny _ _ _ _ _ { s with toks:=s.toks+1 }
  rw [show ((es.size:Nat):Int)+((0:Nat):Int)=(es.size:Int) by simp]
  refine wpAny_bind (wpAny_holding (wpAny_pure (wpAny_bind (wpAny_letGo ?_))))
  show wpAny _ _ (if ((es.size:Nat):Int) < 0 then _ else _) _ _ _
  rw [if_neg (by omega)]
  show wpAny _ _ (if ((es.size:Nat):Int) ≥ 2 ^ 63 then _ else _) _ _ _
  rw [if_neg (by omega)]
  exact wpAny_bind (wpAny_mkInt (wpAny_pure ⟨_,rfl,q⟩))
end
def rLenT:RL:=fun xs H Q=>∃ (a:Addr) (kvs:List (List Key×V)),xs=[V.ref a]∧H a=some (.dT kvs)∧Q (.int kvs.length) H
section
variable {X:Cx}
theorem call_lenT:CallR X (.builtin "len") rLenT:=by
 intro pins s σ H xs us Q I r h
 obtain ⟨a,kvs,rfl,ha,q⟩:=h
 obtain ⟨u,rfl,ru⟩:=r.one
 cases ru
 obtain ⟨hz,hsys,ts,kt,ob,es,ep,e1,e2,e3,e4,e5⟩:=I.hok _ _ ha
 have hkl:kvs.length=ts.length:=Paired.length kt
 have esz:es.size=ts.length:=by rw [← Array.length_toList,e4,List.length_map]
 have hz':=hz
 rw [sizeLine_eq] at hz'
 refine raw_len hsys ⟨ob,e1,e2,e3⟩ (by omega) ?_
 rw [esz,← hkl]
 exact ⟨.int kvs.length,H,I.tok _,⟨_,rfl⟩,q⟩
variable {a b c e o i value:Expr} {es rest:List Expr} {ta tb tc te to td ty tv:TE} {t:TA} {pos p apos cpos p2 pos' tpos:Pos}
theorem jc_lenT (hg:Gl X "len") (hm:X.mg "len" = none) (ha:JA X [e] t) (he:starEach [e] X.env=(false,eval e X.env)::starEach [] X.env:=by rfl) (hpl:(backTo pos (starEach [] X.env)).any (·.1)=false:=by rfl):JE X (.Call (.Name "len" p) [e] [] pos) (tCB rLenT t):=⟨pe_callB call_lenT hg hm bb_len ha.h (by decide) (by decide) he hpl⟩
theorem jc_sortD (hg:Gl X "sorted") (hm:X.mg "sorted" = none) (ha:JA X [e] t) (hc:X.calm=true:=by rfl) (he:starEach [e] X.env=(false,eval e X.env)::starEach [] X.env:=by rfl) (hpl:(backTo pos (starEach [] X.env)).any (·.1)=false:=by rfl):JE X (.Call (.Name "sorted" p) [e] [] pos) (tCB rSortD t):=⟨pe_callB (call_sortD hc) hg hm bb_sorted ha.h (by decide) (by decide) he hpl⟩
theorem j_dnewT:JE X (.Dict [] [] pos) tDNewT:=⟨pe_dnewT⟩
theorem jv_din (hu:X.A.units+60 < cLine) (hi:JE X i ty) (ho:JE X o td) (hm:behindInMarks .In o=false):JE X (.Compare i [.In] [o] pos) (tDIn ty td):=⟨pe_cmp (pc_din (by omega) hi.h ho.h) hm⟩
theorem jt_dnotin (hu:X.A.units+60 < cLine) (hi:JE X i ty) (ho:JE X o td) (hm:behindInMarks .NotIn o=false):JT X (.Compare i [.NotIn] [o] pos) (tB (tDNotIn ty td)):=⟨pt_cmp (pc_dnotin (by omega) hi.h ho.h) hm⟩
theorem js_dput (hu:X.A.units+60 < cLine) (ho:JE X o td) (hi:JE X i ty) (hv:JE X value tv) (hs:swapsWith value (some (.Subscript o i pos')) pos.line X.env=pure false:=by rfl):JS X (.Assign [.Subscript o i pos'] value pos) (sDPut td ty tv):=⟨ps_dput (by omega) ho.h hi.h hv.h hs⟩
theorem j_fld (K:PySem.W.Frag) {f:Str} (he:JE X e ta) (hK:X.K=K:=by rfl) (hb:attributeBase e f X.env (eval e X.env)=eval e X.env:=by rfl):JE X (.Attribute e f pos) (tFld K ta f):=by
 subst hK
 exact ⟨pe_fld he.h hb⟩
theorem js_fld (K:PySem.W.Frag) {f:Str} (ha:JE X o ta) (hv:JE X value tv) (hK:X.K=K:=by rfl) (hs:swapsWith value (some (.Attribute o f pos')) pos.line X.env=pure false:=by rfl):JS X (.Assign [.Attribute o f pos'] value pos) (sFld K ta tv f):=by
 subst hK
 exact ⟨ps_fld ha.h hv.h hs⟩
end
structure MethOk (P:Program) (w:World) (K:PySem.W.Frag) (mg:Str→Option Value) (base:Heap) (C:Addr) (m:Str) (k:Nat) (ps:List Str) (sp:Sp):Prop where
 ex:∃ f fd,Meth K C m f∧Binds K fd ps []∧FnOk P w K mg base CX0 k f fd ps sp
structure MethAt (K:PySem.W.Frag) (C:Addr) (m qual:Str) (st:Stmt) (ps:List Str):Prop where
 ex:∃ f fd,Meth K C m f∧Fun K m qual st f fd∧Binds K fd ps []
structure MakeOk (P:Program) (w:World) (K:PySem.W.Frag) (mg:Str→Option Value) (base:Heap) (x:Str) (C:Addr) (k:Nat) (ps:List Str) (sp:Sp):Prop where
 ex:∃ f fd,mg x=some (.ref C)∧Mk K C f∧Binds K fd ps []∧FnOk P w K mg base CX0 k f fd ps sp
section
variable {P:Program} {w:World} {K:PySem.W.Frag} {mg:Str→Option Value} {base:Heap} {C:Addr} {m qual:Str} {st:Stmt} {N ps:List Str} {k:Nat} {sp:Sp}
theorem MethAt.fnJ (F:MethAt K C m qual st ps) (S:FnScope N ps (defScope st)) (len:∀ vs H Q E,sp vs H Q E→vs.length=ps.length)
  (hbody:∀ (cdv:Value) (f:Addr) (A:Around) (outer:List Env) (s:Shared) (H:Hp) (vs:List V) (Q:VK) (E:XK),Room k (A.deeper (envOfC qual (defScope st) s.heap.objs.size f cdv))→sp vs H Q E →
   ∃ t,JB (cxOf CX0 P w K mg base N qual (defScope st) f cdv A outer s H E).nox (defBody st) t∧t { nx:=fun _ H'=>Q .non H',rt:=Q } (start N vs) H):MethOk P w K mg base C m (k+1) ps sp:=by
 obtain ⟨f,fd,h1,h2,h3⟩:=F.ex
 exact ⟨f,fd,h1,h3,h2.okJ S len fun cdv=>hbody cdv f⟩
theorem MethOk.make {x:Str} (O:MethOk P w K mg base C "__init__" k ps sp) (hx:mg x=some (.ref C)) (hm:PySem.W.makesIn K C=true) (hk:PySem.W.keepIn K (.ref C)=true):MakeOk P w K mg base x C k ps sp:=by
 obtain ⟨f,fd,h1,h2,h3⟩:=O.ex
 exact ⟨f,fd,hx,⟨hm,h1.at_,h1.fn,hk⟩,h2,h3⟩
end
section
variable {X:Cx} {C:Addr} {m x:Str} {k:Nat} {ps:List Str} {sp:Sp} {o e:Expr} {es:List Expr} {ta:TE} {t:TA} {pos apos p:Pos}
theorem j_meth {pl:Sem Bool} (O:MethOk X.prog X.w X.K X.mg X.base C m k ps sp) (c:Cls X.K C) (hr:Room k X.A) (he:JE X o ta) (ha:JA X (e::es) t)
  (hst:starEach (e::es) X.env=(false,eval e X.env)::starEach es X.env:=by rfl) (hpl:(backTo pos (starEach es X.env)).any (·.1)=false:=by rfl)
  (ht:eval (.Call (.Attribute o m apos) (e::es) [] pos) X.env=(eval o X.env >>= fun ov=>standAt apos.atName >>= fun _=>holding [ov] (getMethod ov m pl) >>= fun p=>match p with | (f,first)=>callWith pos f first (backTo pos (starEach (e::es) X.env)) (backToKw pos (keywordEach [] X.env))):=by rfl) :
  JE X (.Call (.Attribute o m apos) (e::es) [] pos) (tMeth C m sp [] E0 ta t):=by
 obtain ⟨f,fd,h1,h2,h3⟩:=O.ex
 exact ⟨pe_meth (pl:=pl) he.h c h1 h3 hr h2 .nil pass0 ha.h hst hpl ht⟩
theorem j_meth0 {pl:Sem Bool} (O:MethOk X.prog X.w X.K X.mg X.base C m k ps sp) (c:Cls X.K C) (hr:Room k X.A) (he:JE X o ta)
  (ht:eval (.Call (.Attribute o m apos) [] [] pos) X.env=(eval o X.env >>= fun ov=>standAt apos.atName >>= fun _=>holding [ov] (getMethod ov m pl) >>= fun p=>match p with | (f,first)=>callWith pos f first (backTo pos (starEach [] X.env)) (backToKw pos (keywordEach [] X.env))):=by rfl) :
  JE X (.Call (.Attribute o m apos) [] [] pos) (tMeth C m sp [] E0 ta tNil):=by
 obtain ⟨f,fd,h1,h2,h3⟩:=O.ex
 exact ⟨pe_meth0 (pl:=pl) he.h c h1 h3 hr h2 .nil pass0 ht⟩
theorem j_make (O:MakeOk X.prog X.w X.K X.mg X.base x C k ps sp) (hr:Room (k+1) X.A) (hg:Gl X x) (ha:JA X (e::es) t) (hdb:(x == ("__debug__" : Str))=false:=by decide)
  (he:starEach (e::es) X.env=(false,eval e X.env)::starEach es X.env:=by rfl) (hpl:(backTo pos (starEach es X.env)).any (·.1)=false:=by rfl) :
  JE X (.Call (.Name x p) (e::es) [] pos) (tMake C sp [] E0 t):=by
 obtain ⟨f,fd,h0,h1,h2,h3⟩:=O.ex
 exact ⟨pe_make h1 h3 hr hg h0 h2 .nil pass0 ha.h hdb he hpl⟩
end
end L2
namespace L2
open PySem PySem.Spec PyProof.Rows
theorem list_keepC {K:PySem.W.Frag} {src:List (Option Nat)} {σ caps:St} {Q:VK} {a:Addr} {vs:List V} {rss:LLI} {H:Hp} {tt:TT} (t:List Int→Bool) (hl:vs.length≤sizeLine) (hmono:∀ H',Same H H'→SqL K H' a vs) (hI:Its H vs rss) (hsrc:blkSt src σ=none::caps)
  (htt:∀ v r H1 Q1,r∈rss→IT H1 v r→Same H H1→(∀ H2,Same H1 H2→Q1 (t r) H2)→tt (some v::caps) H1 Q1) (hd:∀ H1 p ws,Same H H1→H1 p=none→Its H1 ws (rss.filter t)→Q (.ref p) (upd H1 p (.lst ws))):CompW src (gName 0) tt (tVar 0) σ Q (Itl K a) H:=by
 refine comp_list (xs:=vs) (by omega) (fun i ys H'=>Same H H'∧Its H' ys ((rss.take i).filter t)) ⟨Same.refl H,by simpa using Its.nil⟩ (fun i ys H' _ h=>⟨hmono H' h.1,by rw [h.2.1]; exact Nat.le_trans (List.length_filter_le _ _) (List.length_take_le _ _)⟩) ?_ ?_
 ·rintro i x ys H' hx ⟨s,hy⟩
  obtain ⟨r,hr,hr2,hr3⟩:=hI.mem hx
  show Sub _ ((blkSt src σ).set 0 (some x))∧_
  rw [hsrc]
  refine ⟨Sub.one,htt x r H' _ hr (hr3.same s) s fun H2 s2=>?_⟩
  rw [List.take_add_one,hr2]
  cases e:t r with
  | true=>exact ⟨_,rfl,s.trans s2,by simpa [e] using (hy.same s2).snoc ((hr3.same s).same s2)⟩
  | false=>exact ⟨s.trans s2,by simpa [e] using hy.same s2⟩
 ·rintro ys H' ⟨s,hy⟩ p hp
  rw [hI.1,List.take_length] at hy
  exact hd H' p ys s hp hy
def Prs (H:Hp) (ps:List V) (f:Nat→List Int) (js:List Nat):Prop:=ps.length=js.length∧∀ (i:Nat) (q:V),ps[i]?=some q→∃ (j:Nat) (b:Addr) (v:V),js[i]?=some j∧q=.ref b∧H b=some (.tup [.int j,v])∧IT H v (f j)
theorem Prs.same {H H':Hp} {ps:List V} {f:Nat→List Int} {js:List Nat} (h:Prs H ps f js) (s:Same H H'):Prs H' ps f js :=
 ⟨h.1,fun i q e=>let ⟨j,b,v,e1,e2,e3,e4⟩:=h.2 i q e; ⟨j,b,v,e1,e2,s _ _ e3,e4.same s⟩⟩
theorem Prs.nil {H:Hp} {f:Nat→List Int}:Prs H [] f []:=⟨rfl,fun i q e=>by simp at e⟩
theorem Prs.snoc {H:Hp} {ps:List V} {f:Nat→List Int} {js:List Nat} {j:Nat} {b:Addr} {v:V} (h:Prs H ps f js) (hb:H b=some (.tup [.int j,v])) (hv:IT H v (f j)):Prs H (ps++[.ref b]) f (js++[j]):=by
 refine ⟨by rw [List.length_append,List.length_append,h.1]; rfl,fun i q e=>?_⟩
 rcases Nat.lt_or_ge i ps.length with hi | hi
 ·rw [List.getElem?_append_left hi] at e
  obtain ⟨j',b',v',e1,e2⟩:=h.2 i q e
  exact ⟨j',b',v',by rw [List.getElem?_append_left (by rw [← h.1]; exact hi)]; exact e1,e2⟩
 ·rw [List.getElem?_append_right hi] at e
  have hi0:i - ps.length=0:=by
   rcases Nat.eq_zero_or_pos (i - ps.length) with z | z
   ·exact z
   ·rw [List.getElem?_eq_none (by simp; omega)] at e; cases e
  rw [hi0] at e
  cases e
  exact ⟨j,b,v,by rw [List.getElem?_append_right (by rw [← h.1]; exact hi),← h.1,hi0]; rfl,rfl,hb,hv⟩
def txSetIx (K:PySem.W.Frag) (i:Nat) (sp:Sp) (t:TA) (z:Int):TX:=fun D R σ H=>t σ H fun vs H1=>sp vs H1 (fun v H2=>rIxT K v (.int z) H2 fun u H3=>D.nx (σ.set i (some u)) H3) fun c _ H'=>∃ C,c=.ref C∧R σ C H'
theorem psx_setIx {X:Cx} {k:Nat} {ps:List Str} {sp:Sp} {x y:Str} {p pos cpos pos' ip sp':Pos} {e:Expr} {es:List Expr} {t:TA} {i:Nat} {z:Int} {jj:Nat} (hx0:∀ e s,¬ X.xe e s) (O:OkE X.prog X.w X.K X.mg X.base x k ps sp) (hr:Room k X.A) (hg:Gl X x)
  (hN:X.N.Nodup) (hi:X.N[i]?=some y) (hy:Loc X.env.scope y) (ha:PA X (e::es) t) (hdb:(x == ("__debug__" : Str))=false:=by decide)
  (he:starEach (e::es) X.env=(false,eval e X.env)::starEach es X.env:=by rfl) (hpl:(backTo cpos (starEach es X.env)).any (·.1)=false:=by rfl)
  (hpx:PlainIx (.Constant (.int z) jj ip):=by intro _ _; rfl)
  (hs:swapsWith (.Subscript (.Call (.Name x p) (e::es) [] cpos) (.Constant (.int z) jj ip) sp') (some (.Name y pos')) pos.line X.env=pure false:=by rfl) (hf:X.fn y=true∨X.env.scope.names.lookup y=some .local:=by first | exact .inl rfl | exact .inr rfl | assumption) :
  PSx X [.Assign [.Name y pos'] (.Subscript (.Call (.Name x p) (e::es) [] cpos) (.Constant (.int z) jj ip) sp') pos] (txSetIx X.K i sp t z):=by
 intro pins s σ H D R I h
 obtain ⟨f,fd,hm,hk,hb,F⟩:=O.ex
 refine wpAny_execs_cons (wpAny_Assign_Name (Subscript_ ?_) hs)
 refine wpAny_Call_Name_kw (ld_glob I hg hm ?_ hdb)
 refine PySem.W.callWith_K (h₀:=X.base) I.ok.mod.kin hk (wpAny_mono (ha cpos pins s σ H _ I h) (fun us s1 ⟨vs,H1,I1,r,q⟩=>⟨I1.kIn,?_⟩) fun e s z=>absurd z (hx0 e s)) he hpl
 have hl:us.length=ps.length:=by rw [← r.length]; exact F.len _ _ _ _ q
 have hb':=hb s1 us I1.kIn (by rw [List.append_nil]; exact hl)
 rw [List.append_nil] at hb'
 refine wpAny_call (codeAny_mono (F.run X.A X.stack s1 H1 ⟨us,[]⟩ us vs _ _ hr I1.env0 hb' r q) fun r s' hq=>?_)
 cases r with
 | error e =>
  obtain ⟨p,C,H',B,a0,h1,h2,h3,h4,h5,h6,h7,h8,C',h9,h10⟩:=hq
  cases h9
  exact ⟨σ,H1,s1,p,C,H',B,a0,h1,I1,h2,h3,h4,h5,h6,h7,h8,h10⟩
 | ok fl =>
  cases fl with
  | ret u =>
   obtain ⟨v,H2,I2,rv,q2⟩:=I1.after hq
   refine wpAny_Constant_int ?_
   have I3:=I2.tok (s'.toks+1)
   refine wpAny_mono (ix_tup _ _ pins _ σ H2 v (.int z) u _ _ I3 rv ⟨_,rfl⟩ q2 (hpx _ _)) (fun u' s4 ⟨v',H4,I4,rv',q4⟩=>?_) fun e s z=>absurd z (hx0 e s)
   exact store_ok I4 hN hi hy rv' (fun s2 I5=>wpAny_execs_nil ⟨_,H4,I5,q4⟩) hf
  | next=>exact False.elim hq
  | brk=>exact False.elim hq
  | cont=>exact False.elim hq
section
variable {X:Cx} {k:Nat} {ps:List Str} {sp:Sp} {x y:Str} {p pos cpos pos' ip sp':Pos} {e:Expr} {es:List Expr} {t:TA} {i:Nat} {z:Int} {jj:Nat}
theorem jx_setIx (K:PySem.W.Frag) (O:OkE X.prog X.w X.K X.mg X.base x k ps sp) (hr:Room k X.A) (hg:Gl X x) (hN:X.N.Nodup) (hi:X.N[i]?=some y) (hy:Loc X.env.scope y) (ha:JA X (e::es) t) (hK:X.K=K:=by rfl) (hx0:∀ e s,¬ X.xe e s:=by exact fun _ _ z=>z) (hdb:(x == ("__debug__" : Str))=false:=by decide)
  (he:starEach (e::es) X.env=(false,eval e X.env)::starEach es X.env:=by rfl) (hpl:(backTo cpos (starEach es X.env)).any (·.1)=false:=by rfl) (hpx:PlainIx (.Constant (.int z) jj ip):=by intro _ _; rfl)
  (hs:swapsWith (.Subscript (.Call (.Name x p) (e::es) [] cpos) (.Constant (.int z) jj ip) sp') (some (.Name y pos')) pos.line X.env=pure false:=by rfl) (hf:X.fn y=true∨X.env.scope.names.lookup y=some .local:=by first | exact .inl rfl | exact .inr rfl | assumption) :
  JX X [.Assign [.Name y pos'] (.Subscript (.Call (.Name x p) (e::es) [] cpos) (.Constant (.int z) jj ip) sp') pos] (txSetIx K i sp t z):=by
 subst hK
 exact ⟨psx_setIx hx0 O hr hg hN hi hy ha.h hdb he hpl hpx hs hf⟩
end
end L2
namespace L2
open PySem PySem.Spec PyProof.Rows PySem.W
section
variable {X:Cx} {tg:Expr}
end
theorem ik_len {kvs:List (List Key×V)} {rss:LLI} (hk:kvs.map (·.1)=IK rss):kvs.length=rss.length:=by
 have:=congrArg List.length hk
 simpa [IK] using this
section
variable {X:Cx}
end
section
variable {X:Cx} {o e:Expr} {es:List Expr} {to:TE} {t:TA} {apos cpos:Pos}
end
section
variable {X:Cx} {k:Nat} {ps:List Str} {sp:Sp} {x:Str} {p pos cpos:Pos} {e:Expr} {es:List Expr} {t:TA}
end
end L2
namespace L2
open PySem PySem.Spec PyProof.Rows
section
variable {prog:Program} {w:World} {A:Around} {E:Value→Shared→Prop} {s:Shared}
end
section
variable {X:Cx} {pos:Pos}
end
section
variable {X:Cx} {es:List Expr} {pos:Pos}
end
end L2
namespace L2
open PySem PySem.Spec PyProof.Rows PySem.W
def rListD:RL:=fun xs H Q=>∃ (d:Addr) (kvs:List (List Key×V)) (rss:LLI),xs=[.ref d]∧H d=some (.dT kvs)∧kvs.map (·.1)=IK rss∧∀ l zs,H l=none→Its H zs rss→Q (.ref l) (upd H l (.lst zs))
section
variable {X:Cx}
theorem call_listD (hc:X.calm=true):CallR X (.type "list") rListD:=by
 intro pins s σ H xs us Q I rv h
 obtain ⟨d,kvs,rss,rfl,hd,hk,q⟩:=h
 obtain ⟨u,rfl,ru⟩:=rv.one
 cases ru
 obtain ⟨hz,hsys,ts,kt,ob,es,ep,e1,e2,e3,e4,e5⟩:=(show ObjOk X.prog X.w H s.heap d (.dT kvs) from I.hok _ _ hd)
 obtain ⟨hI,hlen⟩:=kt_rows kt hk
 have hkl:kvs.length=ts.length:=Paired.length kt
 have esz:es.size=ts.length:=by rw [← Array.length_toList,e4,List.length_map]
 have D:DRaw s.heap d es ep:=⟨ob,e1,e2,e3⟩
 refine kdl_call (raw_src hsys es ep) (I.ok.hd hc) D (by omega) fun h' tk acc c kp hS hit=>?_
 have ea:acc.toList=ts.map fun x=>Value.ref x.2.1:=by
  refine List.ext_getElem? fun i=>?_
  rw [Array.getElem?_toList,List.getElem?_map]
  by_cases hi:i < ts.length
  ·have hia:i < acc.size:=by rw [hit.1,esz]; exact hi
   obtain ⟨e,he,hv⟩:=hit.2 i acc[i] (by simp [hia])
   have he':es.toList[i]?=some e:=by rw [Array.getElem?_toList]; exact he
   rw [e4,List.getElem?_map,List.getElem?_eq_getElem hi] at he'
   injection he' with he'
   rw [Array.getElem?_eq_getElem hia,List.getElem?_eq_getElem hi,hv,← he']
   rfl
  ·rw [Array.getElem?_eq_none (by rw [hit.1,esz]; omega),List.getElem?_eq_none (by omega)]
   rfl
 have eacc:acc=(ts.map fun x=>Value.ref x.2.1).toArray:=by rw [← ea,Array.toArray_toList]
 rw [eacc] at hS
 have I2:=I.laid (h':=h') (a:=s.heap.objs.size) (o:=.lst (ts.map fun x=>V.ref x.2.1)) (t':=tk) kp (Nat.le_refl _) ⟨by rw [List.length_map]; omega,_,c,vals_refA (fun x:List Key×Addr×Value=>x.2.1) ts,hS⟩
 exact ⟨.ref s.heap.objs.size,_,I2,rfl,q _ _ (I.hok.fresh (Nat.le_refl _)) hI⟩
end
section
variable {X:Cx} {e:Expr} {es:List Expr} {t:TA} {p pos:Pos}
theorem jc_listD (hg:Gl X "list") (hm:X.mg "list" = none) (ha:JA X (e::es) t) (hc:X.calm=true:=by rfl) (he:starEach (e::es) X.env=(false,eval e X.env)::starEach es X.env:=by rfl) (hpl:(backTo pos (starEach es X.env)).any (·.1)=false:=by rfl):JE X (.Call (.Name "list" p) (e::es) [] pos) (tCB rListD t):=⟨pe_callTy (call_listD hc) hg hm bb_list ha.h (by decide) (by decide) he hpl⟩
end
def tDisp1T (tk tv:TE):TE:=fun σ H Q=>∀ p,H p=none→tk σ (upd H p (.dT [])) fun x H1=>tv σ H1 fun v H2=>H2 p=some (.dT [])∧∃ (b:Addr) (k:List Key),x=.ref b∧H2 b=some (.tup (k.map kV))∧Q (.ref p) (upd H2 p (.dT [(k,v)]))
section
variable {X:Cx} {k v:Expr} {tk tv:TE} {pos:Pos}
theorem pe_disp1T (hu:X.A.units+60 < cLine) (hk:PE X k tk) (hv:PE X v tv):PE X (.Dict [some k] [v] pos) (tDisp1T tk tv):=by
 intro pins s σ H Q I q
 have hn:=I.hok.fresh (Nat.le_refl s.heap.objs.size)
 have I1:=I.laid (a:=s.heap.objs.size) (o:=.dT []) (h':=s.heap.push { cls:=.type "dict",data:=.dict #[] }) (t':=s.toks) (fun _ _ q=>Heap.get?_push_of_some _ q) (Nat.le_refl _) (dt_empty s.heap I.big)
 rw [arm_eval_Dict,zip_pairTrees [some k] [v] X.env pos rfl rfl,dictDisplay_pairs (pairTrees [some k] [v] X.env pos) (by intro z; cases z) (show 1 < 17 by decide)]
 refine wpAny_bind (wpAny_standAt (wpAny_bind ?_))
 unfold subDict
 refine wpAny_bind (wpAny_alloc ?_)
 refine wpAny_bind (wpAny_holding ?_)
 have hlen:(pairTrees [some k] [v] X.env pos).length≤15:=(show 1≤15 by decide)
 rw [if_pos hlen]
 refine wpAny_bind (pairTrees_cons_walk (thn (hk pins _ σ _ _ I1 (q _ hn)) fun u s1 ⟨x,H1,I2,rx,q1⟩=>thn (hv pins s1 σ H1 _ I2 q1) fun r s2 ⟨y,H2,I3,ry,q2⟩=>pairTrees_nil_walk ?_))
 obtain ⟨e,b,ks,rfl,eb,q3⟩:=q2
 cases (show u=Value.ref b from rx)
 refine wpAny_holding (wpAny_bind ?_)
 rw [List.forIn_cons]
 obtain ⟨z,hd,xs,rel,dd⟩:=dt_of I3.hok e
 have hx0:xs=[]:=List.length_eq_zero_iff.mp (by rw [← Paired.length rel]; rfl)
 subst hx0
 refine wpAny_bind (wpAny_bind (wpAny_dictSet_heap (A:=X.A) (knd:=tupleKind (mixKind X.prog X.w)) (hsz:=Nat.zero_le _) (show X.A.units < cLine by omega) (key_of I3.hok eb) dd fun h' dd' hs=>wpAny_pure ?_))
 dsimp only
 rw [List.forIn_nil]
 refine wpAny_pure (wpAny_pure (wpAny_pure (wpAny_pure ⟨.ref s.heap.objs.size,_,?_,rfl,q3⟩)))
 obtain ⟨o,es,ep,hq,h2,h3,h4,_,h5⟩:=dd'
 have hl:([(ks,y)]:List (List Key×V)).length≤sizeLine:=by show 1≤sizeLine; rw [sizeLine_eq]; decide
 refine d_write I3 (by rw [e]; exact True.intro) hs ⟨o,hq⟩ ⟨hl,hd,_,(show KT H2 [(ks,y)] _ from (rel.put ks eb ry)).keeps fun c ys ec=>?_,o,es,ep,hq,h2,h3,h4,h5⟩
 rw [upd_ne (ne_of ec e (fun z=>nomatch z))]
 exact ec
theorem j_disp1T (hu:X.A.units+60 < cLine) (hk:JE X k tk) (hv:JE X v tv):JE X (.Dict [some k] [v] pos) (tDisp1T tk tv):=⟨pe_disp1T hu hk.h hv.h⟩
end
end L2
section
open PySem PyProof.Rows
end
namespace L2
open PySem PySem.Spec PyProof.Rows
section
variable {X:Cx}
variable {o e:Expr} {es:List Expr} {to:TE} {t:TA} {pos apos cpos:Pos}
end
end L2
namespace L2
theorem len0 {α:Type} {us:List α} (h:us.length=0):us=[]:=List.length_eq_zero_iff.mp h
theorem len1 {α:Type} {us:List α} (h:us.length=1):∃ a,us=[a]:=by
 cases us with
 | nil=>cases h
 | cons a us=>exact ⟨a,by rw [len0 (us:=us) (Nat.succ.inj h)]⟩
theorem len2 {α:Type} {us:List α} (h:us.length=2):∃ a b,us=[a,b]:=by
 cases us with
 | nil=>cases h
 | cons a us=>obtain ⟨b,e⟩:=len1 (us:=us) (Nat.succ.inj h); exact ⟨a,b,by rw [e]⟩
theorem len3 {α:Type} {us:List α} (h:us.length=3):∃ a b c,us=[a,b,c]:=by
 cases us with
 | nil=>cases h
 | cons a us=>obtain ⟨b,c,e⟩:=len2 (us:=us) (Nat.succ.inj h); exact ⟨a,b,c,by rw [e]⟩
theorem len4 {α:Type} {us:List α} (h:us.length=4):∃ a b c d,us=[a,b,c,d]:=by
 cases us with
 | nil=>cases h
 | cons a us=>obtain ⟨b,c,d,e⟩:=len3 (us:=us) (Nat.succ.inj h); exact ⟨a,b,c,d,by rw [e]⟩
theorem len5 {α:Type} {us:List α} (h:us.length=5):∃ a b c d e,us=[a,b,c,d,e]:=by
 cases us with
 | nil=>cases h
 | cons a us=>obtain ⟨b,c,d,e,q⟩:=len4 (us:=us) (Nat.succ.inj h); exact ⟨a,b,c,d,e,by rw [q]⟩
section
open PySem PySem.Spec PyProof.Rows PySem.W
abbrev FnL (K:PySem.W.Frag) (f:Addr) (nm qn:Str) (st:Stmt) (oc:Value) (od:Option Addr) (sl:Array (Option Value)) (kV dc pm:Value) (an:Option Addr) (cd ct:Value):Prop:=K.lookup f=some ⟨oc,od,.func (PySem.W.fnOf nm qn (defArgs st) (defBody st) (defScope st) .none kV dc pm an cd ct),sl⟩
variable {K:PySem.W.Frag} {h:Heap} {mg:Str→Option Value} {x qn:Str} {st:Stmt} {f:Addr} {od an:Option Addr} {sl:Array (Option Value)} {oc kV dc pm cd ct:Value} {C:Addr} {m:Str}
theorem fa_mk (X:K.In h) (G:h.Ns mainGlobals mg) (a:nsIn K mainGlobals x=some (some (.ref f))) (l:FnL K f x x st oc od sl kV dc pm an cd ct) (c:codeIn K cd x=true) (k:keepIn K (.ref f)=true) {ps:List Str}
  (hb:∀ (kV doc pm:Value) (an:Option Addr) (cdv ct:Value) (us:List Value),us.length=ps.length→bindArgs (fnOf x x (defArgs st) (defBody st) (defScope st) .none kV doc pm an cdv ct) ⟨us,[]⟩=pure (ps.zip us)):FunAt K mg x st ps:=⟨f,_,mg_of X G a,fun_mk (st:=st) l c k,(fun_mk (st:=st) l c k).binds hb⟩
theorem ma_mk (a:findIn K (.ref C) m=some (some (.ref f))) (i:isFn K (.ref f)=true) (l:FnL K f m qn st oc od sl kV dc pm an cd ct) (c:codeIn K cd qn=true) (k:keepIn K (.ref f)=true) {ps:List Str}
  (hb:∀ (kV doc pm:Value) (an:Option Addr) (cdv ct:Value) (us:List Value),us.length=ps.length→bindArgs (fnOf m qn (defArgs st) (defBody st) (defScope st) .none kV doc pm an cdv ct) ⟨us,[]⟩=pure (ps.zip us)):MethAt K C m qn st ps:=⟨f,_,⟨a,i,k⟩,fun_mk (st:=st) l c k,(fun_mk (st:=st) l c k).binds hb⟩
end
section
open PySem PySem.Spec PyProof.Rows PySem.W
variable {K:PySem.W.Frag} {h:Heap} {mg:Str→Option Value} {x nm qn:Str} {C N:Addr} {bs bm sub bmB above:List Value} {hd ab:Bool} {sn:List Str} {col:Option Bool} {dd:Option Addr} {k0 k1 k2 k3 k5:Option Value} {newId:String}
theorem own_mk (X:K.In h) (hm:mg x=some (.ref C)) (lx:K.lookup C=some (excClassObj nm qn C N bs bm hd sn sub ab col dd k0 k1 k2 k3 k5 newId)) (tx:tailIn K bmB bm=true) (ok:nsOkIn K N=true) (ini:nsIn K N "__init__" = some none):OwnCls x C bmB newId mg h :=
 ⟨hm,bm,N,nm,qn,bs,hd,sn,sub,ab,col,dd,k0,k1,k2,k3,k5,_,X _ _ lx,.of_isNs (isNs_of_in X ok),nsMap_none_of_in X ok ini,tail_of_in X tx⟩
theorem clsX_mk (lx:K.lookup C=some (excClassObj nm qn C N bs bm hd sn sub ab col dd k0 k1 k2 k3 k5 newId)) (be:bm.contains (.type "BaseException")=true):ClsX K C [] :=
 ⟨nm,qn,N,bs,bm,hd,sn,sub,ab,col,dd,k0,k1,k2,k3,k5,newId,lx,be,fun _ z=>nomatch z⟩
end
inductive Ex1 {α0:Type} (p:α0→Prop):Prop
 | mk (a0:α0) (h:p a0):Ex1 p
inductive Ex2 {α0 α1:Type} (p:α0→α1→Prop):Prop
 | mk (a0:α0) (a1:α1) (h:p a0 a1):Ex2 p
inductive Ex3 {α0 α1 α2:Type} (p:α0→α1→α2→Prop):Prop
 | mk (a0:α0) (a1:α1) (a2:α2) (h:p a0 a1 a2):Ex3 p
inductive Ex4 {α0 α1 α2 α3:Type} (p:α0→α1→α2→α3→Prop):Prop
 | mk (a0:α0) (a1:α1) (a2:α2) (a3:α3) (h:p a0 a1 a2 a3):Ex4 p
inductive Ex5 {α0 α1 α2 α3 α4:Type} (p:α0→α1→α2→α3→α4→Prop):Prop
 | mk (a0:α0) (a1:α1) (a2:α2) (a3:α3) (a4:α4) (h:p a0 a1 a2 a3 a4):Ex5 p
inductive Ex7 {α0 α1 α2 α3 α4 α5 α6:Type} (p:α0→α1→α2→α3→α4→α5→α6→Prop):Prop
 | mk (a0:α0) (a1:α1) (a2:α2) (a3:α3) (a4:α4) (a5:α5) (a6:α6) (h:p a0 a1 a2 a3 a4 a5 a6):Ex7 p
inductive An2 (a0 a1:Prop):Prop
 | mk (h0:a0) (h1:a1):An2 a0 a1
inductive An3 (a0 a1 a2:Prop):Prop
 | mk (h0:a0) (h1:a1) (h2:a2):An3 a0 a1 a2
inductive An4 (a0 a1 a2 a3:Prop):Prop
 | mk (h0:a0) (h1:a1) (h2:a2) (h3:a3):An4 a0 a1 a2 a3
inductive An5 (a0 a1 a2 a3 a4:Prop):Prop
 | mk (h0:a0) (h1:a1) (h2:a2) (h3:a3) (h4:a4):An5 a0 a1 a2 a3 a4
inductive An6 (a0 a1 a2 a3 a4 a5:Prop):Prop
 | mk (h0:a0) (h1:a1) (h2:a2) (h3:a3) (h4:a4) (h5:a5):An6 a0 a1 a2 a3 a4 a5
inductive An7 (a0 a1 a2 a3 a4 a5 a6:Prop):Prop
 | mk (h0:a0) (h1:a1) (h2:a2) (h3:a3) (h4:a4) (h5:a5) (h6:a6):An7 a0 a1 a2 a3 a4 a5 a6
inductive An8 (a0 a1 a2 a3 a4 a5 a6 a7:Prop):Prop
 | mk (h0:a0) (h1:a1) (h2:a2) (h3:a3) (h4:a4) (h5:a5) (h6:a6) (h7:a7):An8 a0 a1 a2 a3 a4 a5 a6 a7
inductive An9 (a0 a1 a2 a3 a4 a5 a6 a7 a8:Prop):Prop
 | mk (h0:a0) (h1:a1) (h2:a2) (h3:a3) (h4:a4) (h5:a5) (h6:a6) (h7:a7) (h8:a8):An9 a0 a1 a2 a3 a4 a5 a6 a7 a8
inductive An10 (a0 a1 a2 a3 a4 a5 a6 a7 a8 a9:Prop):Prop
 | mk (h0:a0) (h1:a1) (h2:a2) (h3:a3) (h4:a4) (h5:a5) (h6:a6) (h7:a7) (h8:a8) (h9:a9):An10 a0 a1 a2 a3 a4 a5 a6 a7 a8 a9
end L2
namespace K26
open PySem PySem.Spec PyProof.Rows L2
noncomputable def top (i:Nat):Stmt:=PySem.Challenge.pw_leastlays_k26_whole_answers_within_caps.main.body.getD i (.Pass ⟨0,0,0,0⟩)
noncomputable abbrev s_free:Stmt:=top 1
noncomputable abbrev s_within:Stmt:=top 2
noncomputable abbrev s_below:Stmt:=top 8
noncomputable abbrev s_plus:Stmt:=top 9
noncomputable abbrev s_minus:Stmt:=top 10
noncomputable abbrev s_times:Stmt:=top 11
noncomputable abbrev s_nought:Stmt:=top 12
noncomputable abbrev s_unit:Stmt:=top 13
noncomputable abbrev s_grow:Stmt:=top 15
noncomputable abbrev s_answers:Stmt:=top 16
noncomputable abbrev s_row_sum:Stmt:=top 18
noncomputable abbrev s_sums:Stmt:=top 19
noncomputable abbrev s_is_answer:Stmt:=top 20
noncomputable abbrev s_pull_of:Stmt:=top 21
noncomputable abbrev s_falls:Stmt:=top 22
noncomputable abbrev s_first_steps:Stmt:=top 24
noncomputable abbrev s_raised:Stmt:=top 25
noncomputable abbrev s_steps:Stmt:=top 26
noncomputable abbrev s_is_barred:Stmt:=top 28
noncomputable abbrev s_next_level:Stmt:=top 29
noncomputable abbrev s_least:Stmt:=top 31
noncomputable abbrev s_often:Stmt:=top 33
noncomputable abbrev s_laid:Stmt:=top 34
noncomputable abbrev s__law_cell:Stmt:=top 36
noncomputable abbrev s__law_pot:Stmt:=top 37
noncomputable abbrev s__law_take:Stmt:=top 38
noncomputable abbrev s__law_row:Stmt:=top 39
noncomputable abbrev s__law_system:Stmt:=top 40
noncomputable abbrev s__law_sums:Stmt:=top 41
noncomputable abbrev s__law_box:Stmt:=top 42
noncomputable abbrev s__law_is_laid:Stmt:=top 43
noncomputable abbrev s__law_unbound:Stmt:=top 44
noncomputable abbrev s_law:Stmt:=top 45
noncomputable abbrev s_Finder___init__:Stmt:=inClass (top 30) 0
noncomputable abbrev s_Finder_step:Stmt:=inClass (top 30) 1
noncomputable abbrev s_Finder_step_within:Stmt:=inClass (top 30) 2
noncomputable abbrev s_Finder_level:Stmt:=inClass (top 30) 3
noncomputable abbrev s_Finder_told:Stmt:=inClass (top 30) 4
noncomputable abbrev s_Finder_paper:Stmt:=inClass (top 30) 5
noncomputable abbrev s_Finder_ended:Stmt:=inClass (top 30) 6
structure Tx (mg:Str→Option Value):Prop where
 b_ValueError:mg "ValueError" = none
 b_all:mg "all" = none
 b_any:mg "any" = none
 b_bool:mg "bool" = none
 b_enumerate:mg "enumerate" = none
 b_int:mg "int" = none
 b_isinstance:mg "isinstance" = none
 b_len:mg "len" = none
 b_list:mg "list" = none
 b_max:mg "max" = none
 b_min:mg "min" = none
 b_range:mg "range" = none
 b_sorted:mg "sorted" = none
 b_sum:mg "sum" = none
 b_tuple:mg "tuple" = none
 b_zip:mg "zip" = none
structure PotAt (H:Hp) (a:Addr) (n:Nat):Prop where
 ex:∃ c t k:Int,H a=some (.lst [.int c,.int t,.int k])∧0≤t∧t < 2 ^ 63∧0≤k∧k≤n
theorem PotAt.same {H H':Hp} {a:Addr} {n:Nat} (h:PotAt H a n) (s:Same H H'):PotAt H' a n:=let ⟨c,t,k,e,q⟩:=h.ex; ⟨c,t,k,s _ _ e,q⟩
theorem PotAt.mono {H:Hp} {a:Addr} {n m:Nat} (h:PotAt H a n) (hm:n≤m):PotAt H a m:=let ⟨c,t,k,e,q1,q2,q3,q4⟩:=h.ex; ⟨c,t,k,e,q1,q2,q3,by omega⟩
theorem at_int {ns:List Int} {k:Nat} (h:k < ns.length):atI (ns.map V.int) (k:Int)=some (.int (ns.getD k 0)):=by
 refine atI_nat ?_
 rw [List.getElem?_map,List.getElem?_eq_getElem h]
 simp [List.getD_eq_getElem?_getD,h]
theorem potne {H:Hp} {a:Addr} {n:Nat} (h:PotAt H a n) {c:Addr} {xs:List V} (hc:H c=some (.tup xs)):c ∉ [a]:=by
 obtain ⟨_,t,k,h1,_⟩:=h.ex
 simp only [List.mem_cons,List.not_mem_nil,or_false]
 exact ne_of hc h1 (by intro z; cases z)
theorem potfree {H:Hp} {a:Addr} {n:Nat} (h:PotAt H a n) {c:Addr} (hc:H c=none):c ∉ [a]:=by
 obtain ⟨_,t,k,h1,_⟩:=h.ex
 simp only [List.mem_cons,List.not_mem_nil,or_false]
 exact (ne_of_none h1 hc).symm
theorem pot_put {H:Hp} {a:Addr} {n:Nat} (h:PotAt H a n) {c:Addr} {o:HO} (hc:c ∉ [a]):PotAt (upd H c o) a n:=by
 simp only [List.mem_cons,List.not_mem_nil,or_false] at hc
 obtain ⟨c',t,k,e,q⟩:=h.ex
 exact ⟨c',t,k,by rw [upd_ne (Ne.symm hc)]; exact e,q⟩
theorem IT.put {H:Hp} {v:V} {ns:List Int} {c:Addr} {xs:List V} {o:HO} (h:IT H v ns) (hc:H c=some (.lst xs)):IT (upd H c o) v ns:=by
 obtain ⟨a,e,q⟩:=h
 exact ⟨a,e,by rw [upd_ne (ne_of q hc (by intro z; cases z))]; exact q⟩
theorem same_fresh {H H1 H2:Hp} {a:Addr} (s:Same H H1) (ha:H a=none) (o:Off [a] H1 H2):Same H H2:=fun b u e=>o b u (by simpa using ne_of_none e ha) (s b u e)
theorem off_fresh {l:List Addr} {H H':Hp} {p:Addr} {o:HO} (s:Off l H H') (hp:H p=none):Off l H (upd H' p o):=fun b u hb e=>by
 rw [upd_ne (ne_of_none e hp)]; exact s b u hb e
section
variable {P:Program} {w:World} {K:PySem.W.Frag} {mg:Str→Option Value} {base:Heap}
inductive IspCell (K:PySem.W.Frag) (vs:List V) (H:Hp) (Q:VK) (E:XK):Prop
 | mk (a:Addr) (ns:List Int) (ki:Int) (k:Nat) (_:vs=[.ref a,.int ki]) (_:ki=k) (_:SqL K H a (ns.map V.int)) (_:Q (.int (ns.getD k 0)) H):IspCell K vs H Q E
def spCell (K:PySem.W.Frag):Sp:=fun vs H Q E=>IspCell K vs H Q E
theorem sc__law_cell:FnScope ["_law_script", "_law_k"] ["_law_script", "_law_k"] (defScope s__law_cell):=⟨rfl,rfl,rfl,by decide +kernel,rfl,by decide +kernel,by decide +kernel⟩
theorem ok_cell (F:FunAt K mg "_law_cell" s__law_cell ["_law_script", "_law_k"]) (T:Tx mg):Ok P w K mg base "_law_cell" 1 ["_law_script", "_law_k"] (spCell K):=by
 refine F.okJ sc__law_cell (fun vs H Q E h=>?_) (fun cdv f A outer s H vs Q E hr h=>?_)
 ·obtain ⟨a,ns,ki,k,rfl,_⟩:=h
  rfl
 ·obtain ⟨a,ns,_,k,rfl,rfl,hS,q⟩:=h
  refine ⟨_,(jb_cons (js_if (jt_lt (jv 1) (jc_len K rfl T.b_len (ja_cons (jv 0) ja_nil)))
 (jb_one (js_ret (j_ixL K (jv 0) (jv 1))))
 jb_nil)
 (jb_one (js_ret j_int))),?_⟩
  refine ⟨_,rfl,_,rfl,a,_,rfl,.inl hS,_,_,rfl,rfl,_,rfl,ite2 (fun e=>?_) (fun e=>?_)⟩
  ·have e':k < ns.length:=by
    have:(k:Int) < ((ns.map V.int).length:Int):=by simpa using e
    rw [List.length_map] at this
    omega
   exact ⟨_,rfl,_,rfl,a,_,_,_,rfl,rfl,hS,at_int e',q⟩
  ·have e':ns.length≤k:=by
    have:¬ (k:Int) < ((ns.map V.int).length:Int):=by simpa using e
    rw [List.length_map] at this
    omega
   rw [show ns.getD k 0=0 by simp [List.getD_eq_getElem?_getD,e']] at q
   exact q
inductive IspPot (K:PySem.W.Frag) (vs:List V) (H:Hp) (Q:VK) (E:XK):Prop
 | mk (a:Addr) (ns:List Int) (ki:Int) (k:Nat) (_:vs=[.ref a,.int ki]) (_:ki=k) (_:k≤1000) (_:SqL K H a (ns.map V.int)) (_:∀ p H',H p=none→PotAt H' p 0→Same H H'→Q (.ref p) H'):IspPot K vs H Q E
def spPot (K:PySem.W.Frag):Sp:=fun vs H Q E=>IspPot K vs H Q E
theorem sc__law_pot:FnScope ["_law_script", "_law_k", "_law_one"] ["_law_script", "_law_k"] (defScope s__law_pot):=⟨rfl,rfl,rfl,by decide +kernel,rfl,by decide +kernel,by decide +kernel⟩
theorem ok_pot (F:FunAt K mg "_law_pot" s__law_pot ["_law_script", "_law_k"]) (T:Tx mg) (O__law_cell:Ok P w K mg base "_law_cell" 1 ["_law_script", "_law_k"] (spCell K)):Ok P w K mg base "_law_pot" 2 ["_law_script", "_law_k"] (spPot K):=by
 refine F.okJ sc__law_pot (fun vs H Q E h=>?_) (fun cdv f A outer s H vs Q E hr h=>?_)
 ·obtain ⟨a,ns,ki,k,rfl,_⟩:=h
  rfl
 ·obtain ⟨a,ns,_,k,rfl,rfl,hk,hS,kk⟩:=h
  refine ⟨_,(jb_cons (js_set (i:=2) sc__law_pot.nd rfl (Or.inl rfl) (j_call O__law_cell (hr.mono (by omega)) rfl (ja_cons (jv 0) (ja_cons (jv 1) ja_nil))))
 (jb_one (js_ret (j_lst (ja_cons (j_mul (jv 2) (jc_int rfl T.b_int (ja_cons (jv_ge (jv 2) (j_pow j_int j_int)) ja_nil))) (ja_cons (j_add (j_add (j_mod (jv 2) j_int) (j_mul j_int (jv 1))) j_int) (ja_cons j_int ja_nil))))))),?_⟩
  refine ⟨_,rfl,_,rfl,a,ns,_,k,rfl,rfl,hS,?_⟩
  generalize ns.getD k 0=c
  dsimp only [gName]
  refine ⟨_,rfl,_,rfl,_,_,rfl,rfl,⟨by decide,by decide,by decide⟩,_,_,rfl,rfl,.inr ⟨_,rfl,?_⟩⟩
  generalize decide (c ≥ 10 ^ Int.toNat 18)=d
  refine ⟨_,_,rfl,rfl,.inr (by cases d <;> decide),?_⟩
  refine ⟨_,rfl,_,_,rfl,rfl,by show (0:Int) < 2305843009213693951; decide,?_⟩
  refine ⟨_,rfl,_,_,rfl,rfl,.inl ⟨by decide,by decide⟩,_,_,rfl,rfl,_,_,rfl,rfl,by show 3≤sizeLine; rw [sizeLine_eq]; decide,fun p hp=>?_⟩
  have h1:0≤c % 2305843009213693951:=Int.emod_nonneg _ (by decide)
  have h2:c % 2305843009213693951 < 2305843009213693951:=Int.emod_lt_of_pos _ (by decide)
  exact kk p _ hp ⟨_,_,_,upd_same,by omega,by omega,by omega,by omega⟩ ((Same.refl H).upd hp)
inductive IspTake (vs:List V) (H:Hp) (Q:VK) (E:XK):Prop
 | mk (a:Addr) (n:Nat) (m:Int) (_:vs=[.ref a,.int m]) (_:PotAt H a n) (_:n < 2 ^ 60) (_:0 < m) (_:m < 2 ^ 60) (_:∀ r H',0≤r→r < m→PotAt H' a (n+1)→Off [a] H H'→Q (.int r) H'):IspTake  vs H Q E
def spTake:Sp:=fun vs H Q E=>IspTake  vs H Q E
theorem sc__law_take:FnScope ["_law_pot_here", "_law_many", "_law_digit", "_law_turn", "_law_mixed"] ["_law_pot_here", "_law_many"] (defScope s__law_take):=⟨rfl,rfl,rfl,by decide +kernel,rfl,by decide +kernel,by decide +kernel⟩
theorem tk0 {c t k:Int}:atI [V.int c,.int t,.int k] 0=some (.int c):=rfl
theorem tk1 {c t k:Int}:atI [V.int c,.int t,.int k] 1=some (.int t):=rfl
theorem tk2 {c t k:Int}:atI [V.int c,.int t,.int k] 2=some (.int k):=rfl
theorem ok_take (F:FunAt K mg "_law_take" s__law_take ["_law_pot_here", "_law_many"]) (T:Tx mg):Ok P w K mg base "_law_take" 1 ["_law_pot_here", "_law_many"] spTake:=by
 refine F.okJ sc__law_take (fun vs H Q E h=>?_) (fun cdv f A outer s H vs Q E hr h=>?_)
 ·obtain ⟨a,n,m,rfl,_⟩:=h
  rfl
 ·obtain ⟨a,n,m,rfl,⟨c,t,k,ha,t0,t1,k0,k1⟩,hn,hm0,hm1,kk⟩:=h
  refine ⟨_,(jb_cons (js_if (jt_gt (j_ixL K (jv 0) j_int) j_int)
 (jb_cons (js_set (i:=2) sc__law_take.nd rfl (Or.inl rfl) (j_mod (j_ixL K (jv 0) j_int) (jv 1)))
 (jb_cons (js_asg (j_fdivG (j_ixL K (jv 0) j_int) (jv 1)) (jg_sub (jv 0) j_int))
 (jb_one (js_ret (jv 2)))))
 jb_nil)
 (jb_cons (js_asg (j_add (j_ixL K (jv 0) j_int) j_int) (jg_sub (jv 0) j_int))
 (jb_cons (js_set (i:=3) sc__law_take.nd rfl (Or.inl rfl) (j_ixL K (jv 0) j_int))
 (jb_cons (js_set (i:=4) sc__law_take.nd rfl (Or.inl rfl) (j_mod (j_add (j_mul (j_ixL K (jv 0) j_int) (j_add j_int (j_mul (j_mul j_int (jv 3)) (jv 3)))) (j_mul j_int (jv 3))) j_int))
 (jb_cons (js_set (i:=4) sc__law_take.nd rfl (Or.inl rfl) (j_mod (j_mul (jv 4) (j_add (j_add (j_mod (jv 4) j_int) (j_mul j_int (jv 3))) j_int)) j_int))
 (jb_one (js_ret (j_mod (j_add (j_fdiv (jv 4) j_int) (j_fdiv (jv 4) j_int)) (jv 1))))))))),?_⟩
  refine ⟨_,rfl,a,_,0,_,rfl,rfl,SqL.of ha,tk0,_,_,rfl,rfl,_,rfl,ite2 (fun e=>?_) (fun e=>?_)⟩
  ·refine ⟨_,rfl,a,_,0,_,rfl,rfl,SqL.of ha,tk0,_,rfl,_,_,rfl,rfl,hm0,?_⟩
   dsimp only [gName]
   refine ⟨_,rfl,a,_,0,_,rfl,rfl,SqL.of ha,tk0,_,rfl,_,_,rfl,rfl,⟨hm0,by omega⟩,?_⟩
   refine ⟨_,rfl,a,_,0,0,rfl,rfl,ha,rfl,?_⟩
   exact ⟨_,rfl,kk _ _ (Int.emod_nonneg _ (by omega)) (Int.emod_lt_of_pos _ hm0) ⟨_,_,_,upd_same,t0,t1,k0,by omega⟩ ((Off.refl _ _).set (by simp))⟩
  ·refine ⟨_,rfl,a,_,2,_,rfl,rfl,SqL.of ha,tk2,_,_,rfl,rfl,?_⟩
   refine ⟨_,rfl,a,_,2,2,rfl,rfl,ha,rfl,?_⟩
   refine ⟨_,rfl,a,_,2,_,rfl,rfl,SqL.of upd_same,tk2,?_⟩
   dsimp only [gName]
   refine ⟨_,rfl,a,_,1,_,rfl,rfl,SqL.of upd_same,tk1,?_⟩
   have hk:=fun (r:Int) h0 h1=>kk r (upd H a (.lst ([V.int c,.int t,.int k].set 2 (.int (k+1))))) h0 h1 ⟨_,t,k+1,upd_same,t0,t1,by omega,by omega⟩ ((Off.refl _ _).set (by simp))
   simp only [tSeq,tAsg,gName,tOp,tUn,tVar,tC,rI,rI0,rU,tIfS,tTest,tRet,tRetN,tNext,tDrop,tCons,tNil,tCall,tCB,tTup,tLst,tSl,tNoPart,tPart,tTrue,tB,tAnd,tOr,tNot,tAndV,tOrV,tNotV,tIf,tTru,rEq,rNe,scal_ii,ipI,rMin,rMax,List.set_cons_zero,List.set_cons_succ,List.getElem?_cons_zero,List.getElem?_cons_succ,Option.some.injEq,V.int.injEq,V.bl.injEq,exists_eq_left',exists_eq_left,exists_and_left,true_and,and_true,blkSt,List.map_cons,List.map_nil,Option.bind_none,Option.bind_some,Option.join_some,L2.start,List.length_cons,List.length_nil,Nat.reduceAdd,Nat.reduceSub,List.replicate_succ,List.replicate_zero,List.cons_append,List.nil_append]
   generalize hx1:(t*(48271+2*(k+1)*(k+1))+65537*(k+1)) % 2305843009213693921=x1
   have h1a:0≤x1:=by rw [← hx1]; exact Int.emod_nonneg _ (by decide)
   have h1b:x1 < 2305843009213693921:=by rw [← hx1]; exact Int.emod_lt_of_pos _ (by decide)
   exact ⟨.inl ⟨by decide,by decide⟩,.inl ⟨by omega,by omega⟩,.inl ⟨by omega,by omega⟩,.inl ⟨by decide,by decide⟩,by decide,by decide,.inl ⟨by decide,by decide⟩,.inl ⟨by omega,by omega⟩,by decide,⟨by decide,by decide⟩,⟨by decide,by decide⟩,hm0,hk _ (Int.emod_nonneg _ (by omega)) (Int.emod_lt_of_pos _ hm0)⟩
end
theorem sqt {K:PySem.W.Frag} {H:Hp} {a:Addr} {xs:List V} (h:H a=some (.tup xs)):SqK true K H a xs:=SqT.of h
noncomputable def Bel (xs ys:List Int):Bool:=(List.zipWith (fun a b=>decide (a≤b)) xs ys).all id
theorem Bel_tr (xs ys:List Int):(List.zipWith (fun a b=>V.bl (decide (a≤b))) xs ys).all trV=Bel xs ys:=by
 unfold Bel
 induction xs generalizing ys with
 | nil=>rfl
 | cons x xs ih =>
  cases ys with
  | nil=>rfl
  | cons y ys=>simp only [List.zipWith_cons_cons,List.all_cons,ih ys]; rfl
theorem zip_map {γ:Type} (f:Int→Int→Int) (g:Int→γ):∀ xs ys:List Int,List.zipWith (fun a b=>g (f a b)) xs ys=(List.zipWith f xs ys).map g
 | [],_=>rfl
 | _::_,[]=>rfl
 | x::xs,y::ys=>by rw [List.zipWith_cons_cons,List.zipWith_cons_cons,List.map_cons,zip_map f g xs ys]
section
variable {P:Program} {w:World} {K:PySem.W.Frag} {mg:Str→Option Value} {base:Heap}
end
theorem flat_rep (n:Nat):(List.replicate n [V.int 0]).flatten=(List.replicate n (0:Int)).map V.int:=by
 induction n with
 | zero=>rfl
 | succ n ih=>rw [List.replicate_succ,List.flatten_cons,ih,List.replicate_succ]; rfl
noncomputable def dot (xs ys:List Int):Int:=(List.zipWith (fun a b=>a*b) xs ys).sum
noncomputable def Ans (rss:LLI) (ys:List Int):Bool:=rss.all fun r=>decide (dot r ys=0)
def Sm (ys:List Int):Prop:=∀ z∈ys,-2 ^ 64 < z∧z < 2 ^ 64
section
variable {P:Program} {w:World} {K:PySem.W.Frag} {mg:Str→Option Value} {base:Heap}
inductive IspRowSum (vs:List V) (H:Hp) (Q:VK) (E:XK):Prop
 | mk (x:_) (y:_) (xs:_) (ys:_) (_:vs=[x,y]) (_:IT H x xs) (_:IT H y ys) (_:xs.length≤1000) (_:Sm ys) (_:∀ H',Same H H'→Q (.int (dot xs ys)) H'):IspRowSum  vs H Q E
def spRowSum:Sp:=fun vs H Q E=>IspRowSum  vs H Q E
theorem sc_row_sum:FnScope ["row", "one"] ["row", "one"] (defScope s_row_sum):=⟨rfl,rfl,rfl,by decide +kernel,rfl,by decide +kernel,by decide +kernel⟩
theorem ok_row_sum (F:FunAt K mg "row_sum" s_row_sum ["row", "one"]) (T:Tx mg):Ok P w K mg base "row_sum" 1 ["row", "one"] spRowSum:=by
 refine F.okJ sc_row_sum (fun vs H Q E h=>?_) (fun cdv f A outer s H vs Q E hr h=>?_)
 ·obtain ⟨x,y,xs,ys,rfl,_⟩:=h
  rfl
 ·obtain ⟨_,_,xs,ys,rfl,⟨a,rfl,ha⟩,⟨b,rfl,hb⟩,hl,hs,k⟩:=h
  refine ⟨_,(jb_one (js_ret (jc_sum K rfl T.b_sum (ja_cons (j_comp (N:=["a", "b"]) (src:=[none,none]) (ji_zip K rfl T.b_zip (ja_cons (jv 0) (ja_cons (jv 1) ja_nil))) (by show capOk _ _=true; rfl) (by rfl) (by rfl)
 (fun _ _ _ _ _=>(jg_tup K 2 (jgs_cons (jg_name (i:=0) (show (["a", "b"]:List Str).Nodup by decide +kernel) rfl (Or.inl rfl)) (jgs_cons (jg_name (i:=1) (show (["a", "b"]:List Str).Nodup by decide +kernel) rfl (Or.inl rfl)) jgs_nil)))) (fun _ _ _ _ _=>jf_nil) (fun _ _ _ _ _=>(j_mul (jv 0) (jv 1)))) ja_nil)))),?_⟩
  refine ⟨_,rfl,_,rfl,true,true,a,b,rfl,⟨_,SqT.of ha⟩,⟨_,SqT.of hb⟩,?_⟩
  refine zip_intsM (caps:=[]) (fun x y=>V.int (x*y)) hl (fun H' s=>⟨sqt (s _ _ ha),sqt (s _ _ hb)⟩) rfl (fun x y H1 Q1 _ hy _ q=>⟨_,rfl,_,rfl,_,_,rfl,rfl,.inr (hs y hy),q⟩) fun H1 p s hp=>?_
  rw [zip_map (fun x y=>x*y) V.int]
  exact ⟨false,p,_,rfl,SqL.of upd_same,k _ (s.upd hp)⟩
inductive IspSums (vs:List V) (H:Hp) (Q:VK) (E:XK):Prop
 | mk (a:Addr) (y:V) (us:List V) (rss:LLI) (ys:List Int) (_:vs=[.ref a,y]) (_:H a=some (.tup us)) (_:Its H us rss) (_:IT H y ys) (_:us.length≤1000) (_:(∀ r∈rss,r.length≤1000)) (_:Sm ys) (_:∀ v H',Same H H'→IT H' v (rss.map fun r=>dot r ys)→Q v H'):IspSums  vs H Q E
def spSums:Sp:=fun vs H Q E=>IspSums  vs H Q E
theorem sc_sums:FnScope ["rows", "one"] ["rows", "one"] (defScope s_sums):=⟨rfl,rfl,rfl,by decide +kernel,rfl,by decide +kernel,by decide +kernel⟩
theorem ok_sums (F:FunAt K mg "sums" s_sums ["rows", "one"]) (T:Tx mg) (O_row_sum:Ok P w K mg base "row_sum" 1 ["row", "one"] spRowSum):Ok P w K mg base "sums" 2 ["rows", "one"] spSums:=by
 refine F.okJ sc_sums (fun vs H Q E h=>?_) (fun cdv f A outer s H vs Q E hr h=>?_)
 ·obtain ⟨a,y,us,rss,ys,rfl,_⟩:=h
  rfl
 ·obtain ⟨a,y,us,rss,ys,rfl,ha,hI,hy,hl,hl2,hs,k⟩:=h
  refine ⟨_,(jb_one (js_ret (jc_tuple K rfl T.b_tuple (ja_cons (j_comp (N:=["row", "one"]) (src:=[none,some 1]) (ji_tup K (jv 0)) (by show capOk _ _=true; rfl) (by rfl) (by rfl)
 (fun _ _ _ _ _=>(jg_name (i:=0) (show (["row", "one"]:List Str).Nodup by decide +kernel) rfl (Or.inl rfl))) (fun _ _ _ _ _=>jf_nil) (fun _ _ _ _ _=>(j_call O_row_sum (hr.mono (by omega)) rfl (ja_cons (jv 0) (ja_cons (jv 1) ja_nil))))) ja_nil)))),?_⟩
  refine ⟨_,rfl,a,rfl,⟨_,SqT.of ha⟩,?_⟩
  refine tup_its (caps:=[some y]) (fun r=>V.int (dot r ys)) hl (fun H' s=>SqT.of (s _ _ ha)) hI rfl (fun v r H1 Q1 hr hv s1 q=>⟨_,rfl,_,rfl,v,y,r,ys,rfl,hv,hy.same s1,hl2 r hr,hs,q⟩) fun H1 p s hp=>?_
  rw [show (rss.map fun r=>V.int (dot r ys))=(rss.map fun r=>dot r ys).map V.int by rw [List.map_map]; rfl]
  refine ⟨p,_,rfl,.inl ⟨SqL.of upd_same,fun l hl=>?_⟩⟩
  exact k _ _ ((s.upd hp).upd hl) ⟨l,rfl,upd_same⟩
inductive IspIsAns (vs:List V) (H:Hp) (Q:VK) (E:XK):Prop
 | mk (a:Addr) (y:V) (us:List V) (rss:LLI) (ys:List Int) (_:vs=[.ref a,y]) (_:H a=some (.tup us)) (_:Its H us rss) (_:IT H y ys) (_:us.length≤1000) (_:(∀ r∈rss,r.length≤1000)) (_:Sm ys) (_:∀ H',Same H H'→Q (.bl (Ans rss ys)) H'):IspIsAns  vs H Q E
def spIsAns:Sp:=fun vs H Q E=>IspIsAns  vs H Q E
theorem sc_is_answer:FnScope ["rows", "one"] ["rows", "one"] (defScope s_is_answer):=⟨rfl,rfl,rfl,by decide +kernel,rfl,by decide +kernel,by decide +kernel⟩
theorem ok_is_answer (F:FunAt K mg "is_answer" s_is_answer ["rows", "one"]) (T:Tx mg) (O_sums:Ok P w K mg base "sums" 2 ["rows", "one"] spSums):Ok P w K mg base "is_answer" 3 ["rows", "one"] spIsAns:=by
 refine F.okJ sc_is_answer (fun vs H Q E h=>?_) (fun cdv f A outer s H vs Q E hr h=>?_)
 ·obtain ⟨a,y,us,rss,ys,rfl,_⟩:=h
  rfl
 ·obtain ⟨a,y,us,rss,ys,rfl,ha,hI,hy,hl,hl2,hs,k⟩:=h
  refine ⟨_,(jb_one (js_ret (jc_all K rfl T.b_all (ja_cons (j_comp (N:=["total"]) (src:=[none]) (ji_tup K (j_call O_sums (hr.mono (by omega)) rfl (ja_cons (jv 0) (ja_cons (jv 1) ja_nil)))) (by show capOk _ _=true; rfl) (by rfl) (by rfl)
 (fun _ _ _ _ _=>(jg_name (i:=0) (show (["total"]:List Str).Nodup by decide +kernel) rfl (Or.inl rfl))) (fun _ _ _ _ _=>jf_nil) (fun _ _ _ _ _=>(jv_eq (jv 0) j_int))) ja_nil)))),?_⟩
  refine ⟨_,rfl,_,rfl,a,y,us,rss,ys,rfl,ha,hI,hy,hl,hl2,hs,fun v H1 s1 hv=>?_⟩
  obtain ⟨q,rfl,hq⟩:=hv
  refine ⟨q,rfl,⟨_,SqT.of hq⟩,?_⟩
  refine tup_ints (caps:=[]) (fun x=>V.bl (decide (V.int x=V.int 0))) (by rw [List.length_map,← hI.1]; exact hl) (fun H' s=>SqT.of (s _ _ hq)) rfl (fun x H2 Q2 _ _ q=>⟨_,rfl,rfl,q⟩) fun H2 p s2 hp=>?_
  refine ⟨false,p,_,rfl,SqL.of upd_same,?_,?_⟩
  ·rw [List.all_eq_true]
   intro v hv
   obtain ⟨x,_,rfl⟩:=List.mem_map.mp hv
   rfl
  ·have e:((rss.map fun r=>dot r ys).map fun x=>V.bl (decide (V.int x=V.int 0))).all trV=Ans rss ys:=by
    rw [List.all_map,List.all_map]
    unfold Ans
    congr 1
    funext r
    show decide (V.int (dot r ys)=V.int 0)=decide (dot r ys=0)
    simp
   rw [e]
   exact k _ (s1.trans (s2.upd hp))
end
theorem zip_mapR {α β γ:Type} (f:α→β→Int) (g:Int→γ):∀ (xs:List α) (ys:List β),List.zipWith (fun a b=>g (f a b)) xs ys=(List.zipWith f xs ys).map g
 | [],_=>rfl
 | _::_,[]=>rfl
 | x::xs,y::ys=>by rw [List.zipWith_cons_cons,List.zipWith_cons_cons,List.map_cons,zip_mapR f g xs ys]
noncomputable def pullv (rss:LLI) (ts:List Int) (j:Nat):Int:=(List.zipWith (fun t r=>t*r.getD j 0) ts rss).sum
noncomputable def Pull (rss:LLI) (ys:List Int) (j:Nat):Int:=pullv rss (rss.map fun r=>dot r ys) j
def Rs (n:Nat) (rss:LLI):Prop:=∀ r∈rss,r.length=n∧Sm r
theorem Sm.at {r:List Int} (h:Sm r) {j:Nat} (hj:j < r.length) : -2 ^ 64 < r.getD j 0∧r.getD j 0 < 2 ^ 64:=by
 refine h _ ?_
 rw [List.getD_eq_getElem?_getD,List.getElem?_eq_getElem hj]
 exact List.getElem_mem _
section
variable {P:Program} {w:World} {K:PySem.W.Frag} {mg:Str→Option Value} {base:Heap}
inductive IspPullOf (vs:List V) (H:Hp) (Q:VK) (E:XK):Prop
 | mk (a:Addr) (y:V) (us:List V) (rss:LLI) (ts:List Int) (j n:Nat) (_:vs=[.ref a,y,.int j]) (_:H a=some (.tup us)) (_:Its H us rss) (_:IT H y ts) (_:ts.length≤1000) (_:j < n) (_:n≤1000) (_:Rs n rss) (_:∀ H',Same H H'→Q (.int (pullv rss ts j)) H'):IspPullOf  vs H Q E
def spPullOf:Sp:=fun vs H Q E=>IspPullOf  vs H Q E
theorem sc_pull_of:FnScope ["rows", "totals", "j"] ["rows", "totals", "j"] (defScope s_pull_of):=⟨rfl,rfl,rfl,by decide +kernel,rfl,by decide +kernel,by decide +kernel⟩
theorem ok_pull_of (F:FunAt K mg "pull_of" s_pull_of ["rows", "totals", "j"]) (T:Tx mg):Ok P w K mg base "pull_of" 1 ["rows", "totals", "j"] spPullOf:=by
 refine F.okJ sc_pull_of (fun vs H Q E h=>?_) (fun cdv f A outer s H vs Q E hr h=>?_)
 ·obtain ⟨a,y,us,rss,ts,j,n,rfl,_⟩:=h
  rfl
 ·obtain ⟨a,_,us,rss,ts,j,n,rfl,ha,hI,⟨b,rfl,hb⟩,hl,hj,hn,hR,k⟩:=h
  refine ⟨_,(jb_one (js_ret (jc_sum K rfl T.b_sum (ja_cons (j_comp (N:=["total", "row", "j"]) (src:=[none,none,some 2]) (ji_zip K rfl T.b_zip (ja_cons (jv 1) (ja_cons (jv 0) ja_nil))) (by show capOk _ _=true; rfl) (by rfl) (by rfl)
 (fun _ _ _ _ _=>(jg_tup K 2 (jgs_cons (jg_name (i:=0) (show (["total", "row", "j"]:List Str).Nodup by decide +kernel) rfl (Or.inl rfl)) (jgs_cons (jg_name (i:=1) (show (["total", "row", "j"]:List Str).Nodup by decide +kernel) rfl (Or.inl rfl)) jgs_nil)))) (fun _ _ _ _ _=>jf_nil) (fun _ _ _ _ _=>(j_mul (jv 0) (j_ixT K (jv 1) (jv 2))))) ja_nil)))),?_⟩
  refine ⟨_,rfl,_,rfl,true,true,b,a,rfl,⟨_,SqT.of hb⟩,⟨_,SqT.of ha⟩,?_⟩
  refine zip_rows (caps:=[some (.int j)]) (fun t r=>V.int (t*r.getD j 0)) hl (fun H' s=>⟨sqt (s _ _ hb),sqt (s _ _ ha)⟩) hI rfl (fun x v r H1 Q1 _ hr hv _ q=>?_) fun H1 p s hp=>?_
  ·obtain ⟨va,rfl,hva⟩:=hv
   obtain ⟨e1,e2⟩:=hR r hr
   exact ⟨_,rfl,_,rfl,_,rfl,va,_,_,_,rfl,rfl,SqT.of hva,at_int (by omega),_,_,rfl,rfl,.inr (e2.at (by omega)),q⟩
  ·rw [zip_mapR (fun t r=>t*List.getD r j 0) V.int]
   exact ⟨false,p,_,rfl,SqL.of upd_same,k _ (s.upd hp)⟩
inductive IspFalls (vs:List V) (H:Hp) (Q:VK) (E:XK):Prop
 | mk (a:Addr) (y:V) (us:List V) (rss:LLI) (ys:List Int) (_:vs=[.ref a,y]) (_:H a=some (.tup us)) (_:Its H us rss) (_:IT H y ys) (_:us.length≤1000) (_:ys.length≤1000) (_:Rs ys.length rss) (_:Sm ys) (_:∀ v H',Same H H'→IT H' v (((List.range ys.length).filter fun j=>decide (Pull rss ys j < 0)).map fun (i:Nat)=>(i:Int))→Q v H'):IspFalls  vs H Q E
def spFalls:Sp:=fun vs H Q E=>IspFalls  vs H Q E
theorem sc_falls:FnScope ["rows", "one", "totals"] ["rows", "one"] (defScope s_falls):=⟨rfl,rfl,rfl,by decide +kernel,rfl,by decide +kernel,by decide +kernel⟩
theorem ok_falls (F:FunAt K mg "falls" s_falls ["rows", "one"]) (T:Tx mg) (O_pull_of:Ok P w K mg base "pull_of" 1 ["rows", "totals", "j"] spPullOf) (O_sums:Ok P w K mg base "sums" 2 ["rows", "one"] spSums):Ok P w K mg base "falls" 3 ["rows", "one"] spFalls:=by
 refine F.okJ sc_falls (fun vs H Q E h=>?_) (fun cdv f A outer s H vs Q E hr h=>?_)
 ·obtain ⟨a,y,us,rss,ts,rfl,_⟩:=h
  rfl
 ·obtain ⟨a,y,us,rss,ys,rfl,ha,hI,hy,hl,hn,hR,hs,k⟩:=h
  refine ⟨_,(jb_cons (js_set (i:=2) sc_falls.nd rfl (Or.inr rfl) (j_call O_sums (hr.mono (by omega)) rfl (ja_cons (jv 0) (ja_cons (jv 1) ja_nil))))
 (jb_one (js_ret (jc_tuple K rfl T.b_tuple (ja_cons (j_comp (N:=["j", "rows", "totals"]) (src:=[none,some 0,some 2]) (ji_range1 rfl T.b_range (ja_cons (jc_len K rfl T.b_len (ja_cons (jv 1) ja_nil)) ja_nil)) (by show capOk _ _=true; rfl) (by rfl) (by rfl)
 (fun _ _ _ _ _=>(jg_name (i:=0) (show (["j", "rows", "totals"]:List Str).Nodup by decide +kernel) rfl (Or.inl rfl))) (fun _ _ _ _ _=>(jf_one (jt_lt (j_call O_pull_of (hr.mono (by omega)) rfl (ja_cons (jv 1) (ja_cons (jv 2) (ja_cons (jv 0) ja_nil)))) j_int))) (fun _ _ _ _ _=>(jv 0))) ja_nil))))),?_⟩
  refine ⟨_,rfl,_,rfl,a,y,us,rss,ys,rfl,ha,hI,hy,hl,fun r hr=>by rw [(hR r hr).1]; exact hn,hs,fun v H1 s1 hv=>?_⟩
  dsimp only [gName]
  obtain ⟨ya,rfl,hya⟩:=hy.same s1
  refine ⟨_,rfl,ya,_,rfl,.inr (SqT.of hya),_,rfl,by omega,by rw [List.length_map]; omega,?_⟩
  rw [Int.toNat_natCast,List.length_map]
  refine range_keep (caps:=[some (.ref a),some v]) (fun j=>decide (Pull rss ys j < 0)) hn rfl (fun i H2 Q2 hi s2 q=>?_) fun H2 p s2 hp=>?_
  ·refine ⟨_,rfl,_,rfl,_,rfl,a,v,us,rss,_,i,ys.length,rfl,(s1.trans s2) _ _ ha,hI.same (s1.trans s2),hv.same s2,by rw [List.length_map,← hI.1]; exact hl,hi,hn,hR,fun H3 s3=>?_⟩
   exact ⟨_,_,rfl,rfl,_,rfl,q _ s3⟩
  ·refine ⟨p,_,rfl,.inl ⟨SqL.of upd_same,fun l hl=>?_⟩⟩
   exact k _ _ (s1.trans ((s2.upd hp).upd hl)) ⟨l,rfl,upd_same⟩
end
theorem dot_cons (x y:Int) (xs ys:List Int):dot (x::xs) (y::ys)=x*y+dot xs ys:=by unfold dot; rw [List.zipWith_cons_cons,List.sum_cons]
theorem dot_zero:∀ (xs:List Int) (n:Nat),dot xs (List.replicate n 0)=0
 | [],_=>rfl
 | _::_,0=>rfl
 | x::xs,n+1=>by rw [List.replicate_succ,dot_cons,dot_zero xs n]; omega
theorem dot_range:∀ (xs ys:List Int),xs.length=ys.length→dot xs ys=((List.range ys.length).map fun j=>xs.getD j 0*ys.getD j 0).sum
 | [],[],_=>rfl
 | x::xs,y::ys,h=>by
  rw [dot_cons,dot_range xs ys (by simpa using h),List.length_cons,List.range_succ_eq_map,List.map_cons,List.sum_cons,List.map_map]
  rfl
theorem sum_add (l:List Nat) (f g:Nat→Int):(l.map fun j=>f j+g j).sum=(l.map f).sum+(l.map g).sum:=by
 induction l with
 | nil=>rfl
 | cons x l ih=>simp only [List.map_cons,List.sum_cons,ih]; omega
theorem sum_mul (l:List Nat) (c:Int) (f:Nat→Int):(l.map fun j=>c*f j).sum=c*(l.map f).sum:=by
 induction l with
 | nil=>simp
 | cons x l ih=>simp only [List.map_cons,List.sum_cons,ih,Int.mul_add]
noncomputable def bump (now:List Int) (j:Nat):List Int:=now.set j (now.getD j 0+1)
noncomputable def Pl (rss:LLI) (now xs:List Int):List Nat:=(List.range xs.length).filter fun j=>decide (now.getD j 0 < xs.getD j 0) && (Ans rss now || decide (Pull rss now j < 0))
def Under (now xs:List Int):Prop:=now.length=xs.length∧∀ j,j < xs.length→now.getD j 0≤xs.getD j 0
theorem bump_len (now:List Int) (j:Nat):(bump now j).length=now.length:=List.length_set
theorem pl_mem {rss:LLI} {now xs:List Int} {j:Nat} (h:j∈Pl rss now xs):j < xs.length∧now.getD j 0 < xs.getD j 0:=by
 unfold Pl at h
 rw [List.mem_filter,List.mem_range,Bool.and_eq_true,decide_eq_true_eq] at h
 exact ⟨h.1,h.2.1⟩
theorem bump_at (now:List Int) (j k:Nat) (hj:j < now.length):(bump now j).getD k 0=if k=j then now.getD j 0+1 else now.getD k 0:=by
 unfold bump
 rw [List.getD_eq_getElem?_getD,List.getElem?_set]
 by_cases e:j=k
 ·subst e
  rw [if_pos rfl,if_pos hj,if_pos rfl]
  rfl
 ·rw [if_neg e,if_neg (Ne.symm e),List.getD_eq_getElem?_getD]
theorem Under.bump {rss:LLI} {now xs:List Int} {j:Nat} (h:Under now xs) (hj:j∈Pl rss now xs):Under (bump now j) xs:=by
 obtain ⟨h1,h2⟩:=pl_mem hj
 refine ⟨by rw [bump_len]; exact h.1,fun k hk=>?_⟩
 rw [bump_at _ _ _ (by rw [h.1]; exact h1)]
 by_cases e:k=j
 ·rw [if_pos e,e]; omega
 ·rw [if_neg e]; exact h.2 k hk
theorem sum_set:∀ (xs:List Int) (k:Nat) (z:Int),k < xs.length→(xs.set k z).sum=xs.sum - xs.getD k 0+z
 | [],_,_,h=>by simp at h
 | x::xs,0,z,_=>by rw [List.set_cons_zero,List.sum_cons,List.sum_cons,List.getD_cons_zero]; omega
 | x::xs,k+1,z,h=>by rw [List.set_cons_succ,List.sum_cons,List.sum_cons,List.getD_cons_succ,sum_set xs k z (by simpa using h)]; omega
theorem bump_sum (now:List Int) (j:Nat) (h:j < now.length):(bump now j).sum=now.sum+1:=by
 unfold bump
 rw [sum_set _ _ _ h]
 omega
theorem Under.tail {x y:Int} {xs ys:List Int} (h:Under (x::xs) (y::ys)):x≤y∧Under xs ys :=
 ⟨by simpa using h.2 0 (by simp),by simpa using h.1,fun j hj=>by simpa using h.2 (j+1) (by simpa using hj)⟩
theorem Under.sum:∀ {xs ys:List Int},Under xs ys→xs.sum≤ys.sum∧(xs≠ys→xs.sum < ys.sum)
 | [],[],_=>⟨Int.le_refl _,fun h=>absurd rfl h⟩
 | [],_::_,h=>by have:=h.1; simp at this
 | _::_,[],h=>by have:=h.1; simp at this
 | x::xs,y::ys,h=>by
  obtain ⟨h1,h2⟩:=h.tail
  obtain ⟨i1,i2⟩:=Under.sum h2
  rw [List.sum_cons,List.sum_cons]
  refine ⟨by omega,fun ne=>?_⟩
  by_cases e:xs=ys
  ·subst e
   have:x≠y:=fun q=>ne (by rw [q])
   omega
  ·have:=i2 e
   omega
theorem Under.ne:∀ {xs ys:List Int},Under xs ys→xs≠ys→∃ j,j < ys.length∧xs.getD j 0 < ys.getD j 0
 | [],[],_,h=>absurd rfl h
 | [],_::_,h,_=>by have:=h.1; simp at this
 | _::_,[],h,_=>by have:=h.1; simp at this
 | x::xs,y::ys,h,ne=>by
  obtain ⟨h1,h2⟩:=h.tail
  by_cases e:xs=ys
  ·subst e
   have:x≠y:=fun q=>ne (by rw [q])
   exact ⟨0,by simp,by simp; omega⟩
  ·obtain ⟨j,q1,q2⟩:=Under.ne h2 e
   exact ⟨j+1,by simpa using q1,by simpa using q2⟩
theorem sum_nn (l:List Int) (h:∀ x∈l,0≤x):0≤l.sum:=by
 induction l with
 | nil=>exact Int.le_refl _
 | cons x l ih =>
  rw [List.sum_cons]
  have:=h x (List.mem_cons_self ..)
  have:=ih fun y hy=>h y (List.mem_cons_of_mem _ hy)
  omega
theorem sum_pos (l:List Int) (h:∀ x∈l,0≤x) (y:Int) (hy:y∈l) (hp:0 < y):0 < l.sum:=by
 induction l with
 | nil=>cases hy
 | cons x l ih =>
  rw [List.sum_cons]
  have hx:=h x (List.mem_cons_self ..)
  have hl:=sum_nn l fun z hz=>h z (List.mem_cons_of_mem _ hz)
  rcases List.mem_cons.mp hy with q | q
  ·omega
  ·have:=ih (fun z hz=>h z (List.mem_cons_of_mem _ hz)) q
   omega
theorem mul_self_nn (t:Int):0≤t*t:=by
 rcases Int.le_total 0 t with h | h
 ·exact Int.mul_nonneg h h
 ·have:=Int.mul_nonneg (a := -t) (b := -t) (by omega) (by omega)
  rwa [Int.neg_mul_neg] at this
theorem told_gen (ys:List Int):∀ (rss:LLI) (ts:List Int),(∀ r∈rss,r.length=ys.length)→ts.length=rss.length →
  ((List.range ys.length).map fun j=>pullv rss ts j*ys.getD j 0).sum=(List.zipWith (fun t r=>t*dot r ys) ts rss).sum
 | [],[],_,_=>by
  have e:((List.range ys.length).map fun j=>pullv [] [] j*ys.getD j 0)=(List.range ys.length).map fun j=>0*ys.getD j 0:=rfl
  rw [e,sum_mul,Int.zero_mul]
  rfl
 | [],_::_,_,h=>by simp at h
 | _::_,[],_,h=>by simp at h
 | r::rss,t::ts,h,hl=>by
  have ih:=told_gen ys rss ts (fun q hq=>h q (List.mem_cons_of_mem _ hq)) (by simpa using hl)
  rw [List.zipWith_cons_cons,List.sum_cons,← ih]
  have e:(fun j=>pullv (r::rss) (t::ts) j*ys.getD j 0)=fun j=>t*(r.getD j 0*ys.getD j 0)+pullv rss ts j*ys.getD j 0:=by
   funext j
   unfold pullv
   rw [List.zipWith_cons_cons,List.sum_cons,Int.add_mul,Int.mul_assoc]
  rw [e,sum_add,sum_mul,← dot_range r ys (h r (List.mem_cons_self ..))]
theorem sq_zero:∀ (rss:LLI) (now xs:List Int),Ans rss xs=true→(List.zipWith (fun t r=>t*dot r xs) (rss.map fun r=>dot r now) rss).sum=0
 | [],_,_,_=>rfl
 | r::rss,now,xs,h=>by
  unfold Ans at h
  rw [List.all_cons,Bool.and_eq_true,decide_eq_true_eq] at h
  rw [List.map_cons,List.zipWith_cons_cons,List.sum_cons,h.1,sq_zero rss now xs h.2]
  omega
theorem sq_pos (rss:LLI) (now:List Int) (h:Ans rss now=false):0 < (List.zipWith (fun t r=>t*dot r now) (rss.map fun r=>dot r now) rss).sum:=by
 have e:List.zipWith (fun t r=>t*dot r now) (rss.map fun r=>dot r now) rss=rss.map fun r=>dot r now*dot r now:=by
  clear h
  induction rss with
  | nil=>rfl
  | cons r rss ih=>rw [List.map_cons,List.zipWith_cons_cons,List.map_cons,ih]
 rw [e]
 have:∃ r∈rss,dot r now≠0:=by
  refine Classical.byContradiction fun q=>?_
  have:Ans rss now=true:=by
   unfold Ans
   rw [List.all_eq_true]
   intro r hr
   rw [decide_eq_true_eq]
   exact Classical.byContradiction fun z=>q ⟨r,hr,z⟩
  rw [this] at h
  cases h
 obtain ⟨r,hr,hne⟩:=this
 refine sum_pos _ (fun x hx=>?_) (dot r now*dot r now) (List.mem_map.mpr ⟨r,hr,rfl⟩) ?_
 ·obtain ⟨q,_,rfl⟩:=List.mem_map.mp hx
  exact mul_self_nn _
 ·have h1:=mul_self_nn (dot r now)
  have h2:dot r now*dot r now≠0:=fun z=>by
   rcases Int.mul_eq_zero.mp z with q | q <;> exact hne q
  omega
theorem pl_ne (rss:LLI) (now xs:List Int) (hR:∀ r∈rss,r.length=xs.length) (hU:Under now xs) (hne:now≠xs) (hA:Ans rss xs=true):Pl rss now xs≠[]:=by
 intro hnil
 unfold Pl at hnil
 rw [List.filter_eq_nil_iff] at hnil
 cases ha:Ans rss now with
 | true =>
  obtain ⟨j,h1,h2⟩:=hU.ne hne
  refine hnil j (List.mem_range.mpr h1) ?_
  rw [ha,Bool.and_eq_true,decide_eq_true_eq]
  exact ⟨h2,rfl⟩
 | false =>
  have p1:=told_gen now rss (rss.map fun r=>dot r now) (fun r hr=>by rw [hR r hr,hU.1]) (by simp)
  have p2:=told_gen xs rss (rss.map fun r=>dot r now) hR (by simp)
  have p3:=sq_pos rss now ha
  have p4:=sq_zero rss now xs hA
  rw [hU.1] at p1
  have p5:((List.range xs.length).map fun j=>pullv rss (rss.map fun r=>dot r now) j*now.getD j 0+(-1)*(pullv rss (rss.map fun r=>dot r now) j*xs.getD j 0)).sum≤0:=by
   have hs:∀ (l:List Int),(∀ x∈l,x≤0)→l.sum≤0:=fun l hl=>by
    induction l with
    | nil=>exact Int.le_refl _
    | cons x l ih =>
     rw [List.sum_cons]
     have:=hl x (List.mem_cons_self ..)
     have:=ih fun y hy=>hl y (List.mem_cons_of_mem _ hy)
     omega
   refine hs _ fun x hx=>?_
   obtain ⟨j,hj,rfl⟩:=List.mem_map.mp hx
   have hj':=List.mem_range.mp hj
   have hle:=hU.2 j hj'
   have e:pullv rss (rss.map fun r=>dot r now) j*now.getD j 0+(-1)*(pullv rss (rss.map fun r=>dot r now) j*xs.getD j 0) = -(pullv rss (rss.map fun r=>dot r now) j*(xs.getD j 0 - now.getD j 0)):=by
    rw [Int.mul_sub]
    omega
   rw [e]
   by_cases hlt:now.getD j 0 < xs.getD j 0
   ·have hp:0≤pullv rss (rss.map fun r=>dot r now) j:=by
     have q:=hnil j hj
     rw [ha] at q
     have q':¬ Pull rss now j < 0:=fun z=>q (by simp only [Bool.false_or,Bool.and_eq_true,decide_eq_true_eq]; exact ⟨hlt,z⟩)
     show 0≤Pull rss now j
     omega
    have:=Int.mul_nonneg hp (show 0≤xs.getD j 0 - now.getD j 0 by omega)
    omega
   ·have:xs.getD j 0 - now.getD j 0=0:=by omega
    rw [this,Int.mul_zero]
    exact Int.le_refl _
  rw [sum_add,sum_mul,p1,p2,p4] at p5
  omega
section
variable {P:Program} {w:World} {K:PySem.W.Frag} {mg:Str→Option Value} {base:Heap}
inductive IspBelow (vs:List V) (H:Hp) (Q:VK) (E:XK):Prop
 | mk (x:_) (y:_) (xs:_) (ys:_) (_:vs=[x,y]) (_:IT H x xs) (_:IT H y ys) (_:xs.length≤1000) (_:∀ H',Same H H'→Q (.bl (Bel xs ys)) H'):IspBelow  vs H Q E
def spBelow:Sp:=fun vs H Q E=>IspBelow  vs H Q E
theorem sc_below:FnScope ["one", "other"] ["one", "other"] (defScope s_below):=⟨rfl,rfl,rfl,by decide +kernel,rfl,by decide +kernel,by decide +kernel⟩
theorem ok_below (F:FunAt K mg "below" s_below ["one", "other"]) (T:Tx mg):Ok P w K mg base "below" 1 ["one", "other"] spBelow:=by
 refine F.okJ sc_below (fun vs H Q E h=>?_) (fun cdv f A outer s H vs Q E hr h=>?_)
 ·obtain ⟨x,y,xs,ys,rfl,_⟩:=h
  rfl
 ·obtain ⟨_,_,xs,ys,rfl,⟨a,rfl,ha⟩,⟨b,rfl,hb⟩,hl,k⟩:=h
  refine ⟨_,(jb_one (js_ret (jc_all K rfl T.b_all (ja_cons (j_comp (N:=["a", "b"]) (src:=[none,none]) (ji_zip K rfl T.b_zip (ja_cons (jv 0) (ja_cons (jv 1) ja_nil))) (by show capOk _ _=true; rfl) (by rfl) (by rfl)
 (fun _ _ _ _ _=>(jg_tup K 2 (jgs_cons (jg_name (i:=0) (show (["a", "b"]:List Str).Nodup by decide +kernel) rfl (Or.inl rfl)) (jgs_cons (jg_name (i:=1) (show (["a", "b"]:List Str).Nodup by decide +kernel) rfl (Or.inl rfl)) jgs_nil)))) (fun _ _ _ _ _=>jf_nil) (fun _ _ _ _ _=>(jv_le (jv 0) (jv 1)))) ja_nil)))),?_⟩
  refine ⟨_,rfl,_,rfl,true,true,a,b,rfl,⟨_,SqT.of ha⟩,⟨_,SqT.of hb⟩,?_⟩
  refine zip_ints (caps:=[]) (fun x y=>V.bl (decide (x≤y))) (sqt ha) (sqt hb) hl (fun H' s=>⟨sqt (s _ _ ha),sqt (s _ _ hb)⟩) rfl (fun x y H1 Q1 _ q=>⟨_,rfl,_,rfl,_,_,rfl,rfl,q⟩) fun H1 p s hp=>?_
  refine ⟨false,p,_,rfl,SqL.of upd_same,?_,?_⟩
  ·rw [List.all_eq_true]
   intro v hv
   obtain ⟨i,hi,rfl⟩:=List.mem_iff_getElem.mp hv
   rw [List.getElem_zipWith]
   rfl
  ·rw [Bel_tr]
   exact k _ (s.upd hp)
inductive IspUnit (vs:List V) (H:Hp) (Q:VK) (E:XK):Prop
 | mk (wd:Int) (n j:Nat) (_:vs=[.int wd,.int j]) (_:wd=n) (_:n≤1000) (_:j < n) (_:∀ v H',Same H H'→IT H' v ((List.range n).map fun i=>if i=j then 1 else 0)→Q v H'):IspUnit  vs H Q E
def spUnit:Sp:=fun vs H Q E=>IspUnit  vs H Q E
theorem sc_unit:FnScope ["width", "j"] ["width", "j"] (defScope s_unit):=⟨rfl,rfl,rfl,by decide +kernel,rfl,by decide +kernel,by decide +kernel⟩
theorem ok_unit (F:FunAt K mg "unit" s_unit ["width", "j"]) (T:Tx mg):Ok P w K mg base "unit" 1 ["width", "j"] spUnit:=by
 refine F.okJ sc_unit (fun vs H Q E h=>?_) (fun cdv f A outer s H vs Q E hr h=>?_)
 ·obtain ⟨_,n,j,rfl,_⟩:=h
  rfl
 ·obtain ⟨_,n,j,rfl,rfl,hn,hj,k⟩:=h
  refine ⟨_,(jb_one (js_ret (jc_tuple K rfl T.b_tuple (ja_cons (j_comp (N:=["k", "j"]) (src:=[none,some 1]) (ji_range1 rfl T.b_range (ja_cons (jv 0) ja_nil)) (by show capOk _ _=true; rfl) (by rfl) (by rfl)
 (fun _ _ _ _ _=>(jg_name (i:=0) (show (["k", "j"]:List Str).Nodup by decide +kernel) rfl (Or.inl rfl))) (fun _ _ _ _ _=>jf_nil) (fun _ _ _ _ _=>(j_ifx (jt_eq (jv 0) (jv 1)) j_int j_int))) ja_nil)))),?_⟩
  refine ⟨_,rfl,n,rfl,by omega,by omega,?_⟩
  rw [Int.toNat_natCast]
  refine range_pure (caps:=[some (.int j)]) (fun i=>V.int (if i=j then 1 else 0)) hn rfl (fun i H1 Q1 hi _ q=>?_) fun H1 p s hp=>?_
  ·refine ⟨_,rfl,_,rfl,rfl,_,rfl,ite2 (fun e=>?_) (fun e=>?_)⟩
   ·have e1:(i:Int)=(j:Int):=by simpa using e
    have e':i=j:=by omega
    rw [if_pos e'] at q
    exact q
   ·have e1:¬ (i:Int)=(j:Int):=by simpa using e
    have e':i≠j:=by omega
    rw [if_neg e'] at q
    exact q
  ·rw [show ((List.range n).map fun i=>V.int (if i=j then 1 else 0))=((List.range n).map fun i=>if i=j then (1:Int) else 0).map V.int by rw [List.map_map]; rfl]
   refine ⟨p,_,rfl,.inl ⟨SqL.of upd_same,fun l hl=>?_⟩⟩
   exact k _ _ ((s.upd hp).upd hl) ⟨l,rfl,upd_same⟩
noncomputable def cV:Option Int→V
 | none=>.non
 | some c=>.int c
noncomputable def capB (c:Option Int) (x:Int):Bool:=match c with | none=>true | some c=>decide (x≤c)
noncomputable def Wi (cs:List (Option Int)) (xs:List Int):Bool:=(List.zipWith capB cs xs).all id
theorem wi_tr (cs:List (Option Int)) (xs:List Int):(List.zipWith (fun c x=>V.bl (capB c x)) cs xs).all trV=Wi cs xs:=by
 unfold Wi
 induction cs generalizing xs with
 | nil=>rfl
 | cons c cs ih =>
  cases xs with
  | nil=>rfl
  | cons x xs=>rw [List.zipWith_cons_cons,List.zipWith_cons_cons,List.all_cons,List.all_cons,ih]; rfl
inductive IspWithin (vs:List V) (H:Hp) (Q:VK) (E:XK):Prop
 | mk (a b:Addr) (cs:List (Option Int)) (xs:List Int) (_:vs=[.ref a,.ref b]) (_:H a=some (.tup (cs.map cV))) (_:H b=some (.tup (xs.map V.int))) (_:cs.length≤1000) (_:∀ H',Same H H'→Q (.bl (Wi cs xs)) H'):IspWithin  vs H Q E
def spWithin:Sp:=fun vs H Q E=>IspWithin  vs H Q E
theorem sc_within:FnScope ["caps", "one"] ["caps", "one"] (defScope s_within):=⟨rfl,rfl,rfl,by decide +kernel,rfl,by decide +kernel,by decide +kernel⟩
theorem ok_within (F:FunAt K mg "within" s_within ["caps", "one"]) (T:Tx mg):Ok P w K mg base "within" 1 ["caps", "one"] spWithin:=by
 refine F.okJ sc_within (fun vs H Q E h=>?_) (fun cdv f A outer s H vs Q E hr h=>?_)
 ·obtain ⟨a,b,cs,xs,rfl,_⟩:=h
  rfl
 ·obtain ⟨a,b,cs,xs,rfl,ha,hb,hl,k⟩:=h
  refine ⟨_,(jb_one (js_ret (jc_all K rfl T.b_all (ja_cons (j_comp (N:=["cap", "number"]) (src:=[none,none]) (ji_zip K rfl T.b_zip (ja_cons (jv 0) (ja_cons (jv 1) ja_nil))) (by show capOk _ _=true; rfl) (by rfl) (by rfl)
 (fun _ _ _ _ _=>(jg_tup K 2 (jgs_cons (jg_name (i:=0) (show (["cap", "number"]:List Str).Nodup by decide +kernel) rfl (Or.inl rfl)) (jgs_cons (jg_name (i:=1) (show (["cap", "number"]:List Str).Nodup by decide +kernel) rfl (Or.inl rfl)) jgs_nil)))) (fun _ _ _ _ _=>jf_nil) (fun _ _ _ _ _=>(j_or (jv_isN (jv 0) j_non) (j_one (jv_le (jv 1) (jv 0)))))) ja_nil)))),?_⟩
  refine ⟨_,rfl,_,rfl,true,true,a,b,rfl,⟨_,SqT.of ha⟩,⟨_,SqT.of hb⟩,?_⟩
  refine zip_gen (caps:=[]) cV V.int (fun c x=>V.bl (capB c x)) hl (fun H' s=>⟨sqt (s _ _ ha),sqt (s _ _ hb)⟩) rfl (fun c x H1 Q1 _ _ _ q=>?_) fun H1 p s hp=>?_
  ·cases c with
   | none=>exact ⟨_,rfl,rfl,true,rfl,iteT (q _ (Same.refl _))⟩
   | some c=>exact ⟨_,rfl,rfl,false,rfl,iteF ⟨_,rfl,_,rfl,_,_,rfl,rfl,q _ (Same.refl _)⟩⟩
  refine ⟨false,p,_,rfl,SqL.of upd_same,?_,?_⟩
  ·rw [List.all_eq_true]
   intro v hv
   obtain ⟨i,hi,rfl⟩:=List.mem_iff_getElem.mp hv
   rw [List.getElem_zipWith]
   rfl
  ·rw [wi_tr]
   exact k _ (s.upd hp)
end
noncomputable def unitv (n j:Nat):List Int:=(List.range n).map fun i=>if i=j then (1:Int) else 0
noncomputable def Firsts (cs:List (Option Int)):LLI:=((List.range cs.length).map (unitv cs.length)).filter fun u=>Wi cs u
noncomputable def capLt (c:Option Int) (x:Int):Bool:=match c with | none=>true | some c=>decide (x < c)
noncomputable def StP (rss:LLI) (cs:List (Option Int)) (ys:List Int):List Nat:=((List.range ys.length).filter fun j=>decide (Pull rss ys j < 0)).filter fun j=>capLt (cs.getD j none) (ys.getD j 0)
section
variable {P:Program} {w:World} {K:PySem.W.Frag} {mg:Str→Option Value} {base:Heap}
inductive IspFirst (vs:List V) (H:Hp) (Q:VK) (E:XK):Prop
 | mk (a:Addr) (cs:List (Option Int)) (_:vs=[.ref a]) (_:H a=some (.tup (cs.map cV))) (_:1≤cs.length) (_:cs.length≤100) (_:∀ p zs tss H',Same H H'→H' p=some (.tup zs)→Its H' zs tss→tss.Perm (Firsts cs)→Rises tss→Q (.ref p) H'):IspFirst  vs H Q E
def spFirst:Sp:=fun vs H Q E=>IspFirst  vs H Q E
theorem sc_first_steps:FnScope ["caps", "units"] ["caps"] (defScope s_first_steps):=⟨rfl,rfl,rfl,by decide +kernel,rfl,by decide +kernel,by decide +kernel⟩
theorem ok_first_steps (F:FunAt K mg "first_steps" s_first_steps ["caps"]) (T:Tx mg) (O_unit:Ok P w K mg base "unit" 1 ["width", "j"] spUnit) (O_within:Ok P w K mg base "within" 1 ["caps", "one"] spWithin):Ok P w K mg base "first_steps" 2 ["caps"] spFirst:=by
 refine F.okJ sc_first_steps (fun vs H Q E h=>?_) (fun cdv f A outer s H vs Q E hr h=>?_)
 ·obtain ⟨a,cs,rfl,_⟩:=h
  rfl
 ·obtain ⟨a,cs,rfl,ha,h1,h2,k⟩:=h
  have hz:(3000:Nat)≤sizeLine:=by rw [sizeLine_eq]; decide
  refine ⟨_,(jb_cons (js_setC (i:=1) sc_first_steps.nd rfl (Or.inl rfl) (N:=["j", "caps"]) (src:=[none,some 0]) (ji_range1 rfl T.b_range (ja_cons (jc_len K rfl T.b_len (ja_cons (jv 0) ja_nil)) ja_nil)) (by show capOk _ _=true; rfl) (by rfl) (by rfl)
 (fun _ _ _ _ _=>(jg_name (i:=0) (show (["j", "caps"]:List Str).Nodup by decide +kernel) rfl (Or.inl rfl))) (fun _ _ _ _ _=>jf_nil) (fun _ _ _ _ _=>(j_call O_unit (hr.mono (by omega)) rfl (ja_cons (jc_len K rfl T.b_len (ja_cons (jv 1) ja_nil)) (ja_cons (jv 0) ja_nil)))))
 (jb_one (js_ret (jc_tuple K rfl T.b_tuple (ja_cons (jc_sortA K rfl T.b_sorted (ja_cons (j_comp (N:=["one", "caps"]) (src:=[none,some 0]) (ji_list K (jv 1)) (by show capOk _ _=true; rfl) (by rfl) (by rfl)
 (fun _ _ _ _ _=>(jg_name (i:=0) (show (["one", "caps"]:List Str).Nodup by decide +kernel) rfl (Or.inl rfl))) (fun _ _ _ _ _=>(jf_one (jt_tru K (j_call O_within (hr.mono (by omega)) rfl (ja_cons (jv 1) (ja_cons (jv 0) ja_nil)))))) (fun _ _ _ _ _=>(jv 0))) ja_nil)) ja_nil))))),?_⟩
  refine ⟨_,rfl,a,_,rfl,.inr (SqT.of ha),_,rfl,by rw [List.length_map]; omega,by rw [List.length_map]; omega,?_⟩
  rw [Int.toNat_natCast,List.length_map]
  refine range_by (caps:=[some (.ref a)]) (by omega) rfl (fun i ys H'=>Same H H'∧Its H' ys ((List.range i).map (unitv cs.length))) ⟨Same.refl H,.nil⟩ (fun i ys H' h=>by rw [h.2.1]; simp) ?_ ?_
  ·rintro i ys H' hi ⟨s',hI⟩
   refine ⟨_,rfl,a,_,rfl,.inr (SqT.of (s' _ _ ha)),_,rfl,_,cs.length,i,rfl,by rw [List.length_map],by omega,hi,fun v H2 s2 hv=>⟨s'.trans s2,?_⟩⟩
   rw [List.range_succ,List.map_append]
   exact (hI.same s2).snoc hv
  ·rintro ys H' ⟨s',hI⟩ p hp
   dsimp only [gName]
   have s1:=s'.upd (o:=.lst ys) hp
   have hI1:=hI.same ((Same.refl H').upd (o:=.lst ys) hp)
   have e1:upd H' p (.lst ys) p=some (.lst ys):=upd_same
   generalize upd H' p (.lst ys)=H1 at s1 hI1 e1
   refine ⟨_,rfl,p,rfl,⟨_,SqL.of e1⟩,?_⟩
   have hyl:ys.length=cs.length:=by rw [hI.1]; simp
   refine list_keepC (caps:=[some (.ref a)]) (fun u=>Wi cs u) (by omega) (fun H2 s2=>SqL.of (s2 _ _ e1)) hI1 rfl (fun v r H2 Q2 hr hv s2 q=>?_) fun H2 p2 ws s2 hp2 hI2=>?_
   ·obtain ⟨va,rfl,hva⟩:=hv
    exact ⟨_,rfl,_,rfl,a,va,cs,r,rfl,(s1.trans s2) _ _ ha,hva,by omega,fun H3 s3=>⟨Wi cs r,rfl,q H3 s3⟩⟩
   have s3:=(s1.trans s2).upd (o:=.lst ws) hp2
   have hI3:=hI2.same ((Same.refl H2).upd (o:=.lst ws) hp2)
   have e3:upd H2 p2 (.lst ws) p2=some (.lst ws):=upd_same
   generalize upd H2 p2 (.lst ws)=H3 at s3 hI3 e3
   refine ⟨p2,ws,_,rfl,.inl (SqL.of e3),hI3,fun r hr=>?_,fun l zs tss hl4 hI4 hpm hri _=>?_⟩
   ·obtain ⟨j,_,rfl⟩:=List.mem_map.mp (List.mem_filter.mp hr).1
    simp [unitv]
    omega
   refine ⟨l,_,rfl,.inl ⟨SqL.of upd_same,fun l2 hl5=>?_⟩⟩
   have s4:=(Same.refl H3).upd (o:=.lst zs) hl4
   have s5:=(Same.refl (upd H3 l (.lst zs))).upd (o:=.tup zs) hl5
   exact k l2 zs tss _ ((s3.trans s4).trans s5) upd_same ((hI4.same s4).same s5) hpm hri
inductive IspRaised (vs:List V) (H:Hp) (Q:VK) (E:XK):Prop
 | mk (y:V) (ys:List Int) (j:Nat) (_:vs=[y,.int j]) (_:IT H y ys) (_:j < ys.length) (_:ys.length≤1000) (_:∀ v H',Same H H'→IT H' v (bump ys j)→Q v H'):IspRaised  vs H Q E
def spRaised:Sp:=fun vs H Q E=>IspRaised  vs H Q E
theorem sc_raised:FnScope ["one", "j"] ["one", "j"] (defScope s_raised):=⟨rfl,rfl,rfl,by decide +kernel,rfl,by decide +kernel,by decide +kernel⟩
theorem ok_raised (F:FunAt K mg "raised" s_raised ["one", "j"]):Ok P w K mg base "raised" 1 ["one", "j"] spRaised:=by
 refine F.okJ sc_raised (fun vs H Q E h=>?_) (fun cdv f A outer s H vs Q E hr h=>?_)
 ·obtain ⟨y,ys,j,rfl,_⟩:=h
  rfl
 ·obtain ⟨_,ys,j,rfl,⟨a,rfl,ha⟩,hj,hl,k⟩:=h
  refine ⟨_,(jb_one (js_ret (j_plusT (j_plusT (j_slT K (jv 0) jo_none (jo_some (jv 1))) (j_tup (ja_cons (j_add (j_ixT K (jv 0) (jv 1)) j_int) ja_nil))) (j_slT K (jv 0) (jo_some (j_add (jv 1) j_int)) jo_none)))),?_⟩
  exact put_at (i:=0) (j:=1) (a:=a) (xs:=ys) (k:=j) (z:=ys.getD j 0+1) rfl rfl ha hj hl (fun H' N s' q=>⟨_,rfl,_,rfl,a,_,_,_,rfl,rfl,SqT.of (s' _ _ ha),at_int hj,_,_,rfl,rfl,q⟩) k
inductive IspSteps (vs:List V) (H:Hp) (Q:VK) (E:XK):Prop
 | mk (a c:Addr) (y:V) (us:List V) (rss:LLI) (cs:List (Option Int)) (ys:List Int) (_:vs=[.ref a,.ref c,y]) (_:H a=some (.tup us)) (_:Its H us rss) (_:H c=some (.tup (cs.map cV))) (_:IT H y ys) (_:us.length≤1000) (_:ys.length≤100) (_:cs.length=ys.length) (_:Rs ys.length rss) (_:Sm ys) (_:∀ p ps H',Same H H'→H' p=some (.lst ps)→Prs H' ps (bump ys) (StP rss cs ys)→Q (.ref p) H'):IspSteps  vs H Q E
def spSteps:Sp:=fun vs H Q E=>IspSteps  vs H Q E
theorem cap_at {cs:List (Option Int)} {j:Nat} (h:j < cs.length):atI (cs.map cV) (j:Int)=some (cV (cs.getD j none)):=by
 refine atI_nat ?_
 rw [List.getElem?_map,List.getElem?_eq_getElem h]
 simp [List.getD_eq_getElem?_getD,h]
theorem sc_steps:FnScope ["rows", "caps", "one", "places"] ["rows", "caps", "one"] (defScope s_steps):=⟨rfl,rfl,rfl,by decide +kernel,rfl,by decide +kernel,by decide +kernel⟩
theorem ok_steps (F:FunAt K mg "steps" s_steps ["rows", "caps", "one"]) (T:Tx mg) (O_falls:Ok P w K mg base "falls" 3 ["rows", "one"] spFalls) (O_raised:Ok P w K mg base "raised" 1 ["one", "j"] spRaised):Ok P w K mg base "steps" 4 ["rows", "caps", "one"] spSteps:=by
 refine F.okJ sc_steps (fun vs H Q E h=>?_) (fun cdv f A outer s H vs Q E hr h=>?_)
 ·obtain ⟨a,c,y,us,rss,cs,ys,rfl,_⟩:=h
  rfl
 ·obtain ⟨a,c,_,us,rss,cs,ys,rfl,ha,hI,hc,⟨y,rfl,hy⟩,hl,hn,hcl,hR,hs,k⟩:=h
  have hz:(3000:Nat)≤sizeLine:=by rw [sizeLine_eq]; decide
  refine ⟨_,(jb_cons (js_setC (i:=3) sc_steps.nd rfl (Or.inl rfl) (N:=["j", "caps", "one"]) (src:=[none,some 1,some 2]) (ji_tup K (j_call O_falls (hr.mono (by omega)) rfl (ja_cons (jv 0) (ja_cons (jv 2) ja_nil)))) (by show capOk _ _=true; rfl) (by rfl) (by rfl)
 (fun _ _ _ _ _=>(jg_name (i:=0) (show (["j", "caps", "one"]:List Str).Nodup by decide +kernel) rfl (Or.inl rfl))) (fun _ _ _ _ _=>(jf_one (jt_w (jw_or (jt_isN (j_ixT K (jv 1) (jv 0)) j_non) (jw_or1 (jt_lt (j_ixT K (jv 2) (jv 0)) (j_ixT K (jv 1) (jv 0)))))))) (fun _ _ _ _ _=>(jv 0)))
 (jb_one (js_ret (j_comp (N:=["j", "one"]) (src:=[none,some 2]) (ji_list K (jv 3)) (by show capOk _ _=true; rfl) (by rfl) (by rfl)
 (fun _ _ _ _ _=>(jg_name (i:=0) (show (["j", "one"]:List Str).Nodup by decide +kernel) rfl (Or.inl rfl))) (fun _ _ _ _ _=>jf_nil) (fun _ _ _ _ _=>(j_tup (ja_cons (jv 0) (ja_cons (j_call O_raised (hr.mono (by omega)) rfl (ja_cons (jv 1) (ja_cons (jv 0) ja_nil))) ja_nil)))))))),?_⟩
  refine ⟨_,rfl,_,rfl,a,_,us,rss,ys,rfl,ha,hI,⟨y,rfl,hy⟩,hl,by omega,hR,hs,fun v H1 s1 hv=>?_⟩
  obtain ⟨va,rfl,hva⟩:=hv
  refine ⟨va,rfl,⟨_,SqT.of hva⟩,?_⟩
  rw [List.map_map] at hva
  have hjs:∀ j∈(List.range ys.length).filter (fun j=>decide (Pull rss ys j < 0)),j < ys.length:=fun j hj=>List.mem_range.mp (List.mem_filter.mp hj).1
  have hjl:((List.range ys.length).filter (fun j=>decide (Pull rss ys j < 0))).length≤ys.length:=Nat.le_trans (List.length_filter_le _ _) (by simp)
  refine tup_keepG (caps:=[some (.ref c),some (.ref y)]) (fun (j:Nat)=>V.int j) (fun j=>capLt (cs.getD j none) (ys.getD j 0)) (by omega) (fun H' s=>SqT.of (s _ _ hva)) rfl (fun j H2 Q2 hj s2 q=>?_) fun H2 p2 s2 hp2=>?_
  ·have hj':=hjs j hj
   refine ⟨_,rfl,_,rfl,c,_,_,_,rfl,rfl,SqT.of ((s1.trans s2) _ _ hc),cap_at (by omega),rfl,_,rfl,?_⟩
   cases e:cs.getD j none with
   | none =>
    rw [e] at q
    exact iteT (q _ (Same.refl _))
   | some z =>
    rw [e] at q
    refine iteF ⟨_,rfl,_,rfl,y,_,_,_,rfl,rfl,SqT.of ((s1.trans s2) _ _ hy),at_int hj',_,rfl,_,rfl,c,_,_,_,rfl,rfl,SqT.of ((s1.trans s2) _ _ hc),cap_at (by omega),?_⟩
    rw [e]
    exact ⟨_,_,rfl,rfl,_,rfl,q _ (Same.refl _)⟩
  have s3:=(s1.trans s2).upd (o:=.lst ((StP rss cs ys).map fun (j:Nat)=>V.int j)) hp2
  have e3:upd H2 p2 (.lst ((StP rss cs ys).map fun (j:Nat)=>V.int j)) p2=some (.lst ((StP rss cs ys).map fun (j:Nat)=>V.int j)):=upd_same
  have hst:∀ j∈StP rss cs ys,j < ys.length:=fun j hj=>hjs j (List.mem_filter.mp hj).1
  have hsl:(StP rss cs ys).length≤ys.length:=Nat.le_trans (List.length_filter_le _ _) hjl
  have e0:((List.range ys.length).filter fun j=>decide (Pull rss ys j < 0)).filter (fun j=>capLt (cs.getD j none) (ys.getD j 0))=StP rss cs ys:=rfl
  rw [e0]
  dsimp only [gName]
  generalize upd H2 p2 (.lst ((StP rss cs ys).map fun (j:Nat)=>V.int j))=H3 at s3 e3
  refine ⟨_,rfl,p2,rfl,⟨_,SqL.of e3⟩,?_⟩
  refine comp_list (xs:=(StP rss cs ys).map fun (j:Nat)=>V.int j) (by rw [List.length_map]; omega) (fun i qs H'=>Same H3 H'∧Prs H' qs (bump ys) ((StP rss cs ys).take i)) ⟨Same.refl H3,Prs.nil⟩ (fun i qs H' _ h=>⟨SqL.of (h.1 _ _ e3),by rw [h.2.1]; exact List.length_take_le _ _⟩) ?_ ?_
  ·rintro i x qs H' hx ⟨s',hP⟩
   rw [List.getElem?_map] at hx
   cases ej:(StP rss cs ys)[i]? with
   | none=>rw [ej] at hx; cases hx
   | some j =>
    rw [ej] at hx
    cases hx
    have hj:=hst j (List.mem_of_getElem? ej)
    refine ⟨Sub.one,_,rfl,_,rfl,_,rfl,_,ys,j,rfl,⟨y,rfl,(s3.trans s') _ _ hy⟩,hj,by omega,fun v H4 s4 hv=>?_⟩
    refine ⟨by show 2≤sizeLine; omega,fun p5 hp5=>?_⟩
    have s5:=(Same.refl H4).upd (o:=.tup [.int j,v]) hp5
    refine ⟨(s'.trans s4).trans s5,?_⟩
    rw [List.take_add_one,ej]
    exact ((hP.same s4).same s5).snoc upd_same (hv.same s5)
  ·rintro qs H' ⟨s',hP⟩ p4 hp4
   rw [List.length_map,List.take_length] at hP
   have s5:=(Same.refl H').upd (o:=.lst qs) hp4
   exact k p4 qs _ ((s3.trans s').trans s5) upd_same (hP.same s5)
noncomputable def Bar (fss:LLI) (ys:List Int) (j:Nat):Bool:=fss.any fun f=>decide (f.getD j 0=ys.getD j 0) && Bel f ys
inductive IspBarred (vs:List V) (H:Hp) (Q:VK) (E:XK):Prop
 | mk (l:Addr) (y:V) (fs:List V) (fss:LLI) (ys:List Int) (j:Nat) (_:vs=[.ref l,y,.int j]) (_:H l=some (.lst fs)) (_:Its H fs fss) (_:IT H y ys) (_:j < ys.length) (_:ys.length≤1000) (_:(∀ f∈fss,f.length=ys.length)) (_:∀ H',Same H H'→Q (.bl (Bar fss ys j)) H'):IspBarred  vs H Q E
def spBarred:Sp:=fun vs H Q E=>IspBarred  vs H Q E
theorem sc_is_barred:FnScope ["found", "one", "j", "answer"] ["found", "one", "j"] (defScope s_is_barred):=⟨rfl,rfl,rfl,by decide +kernel,rfl,by decide +kernel,by decide +kernel⟩
theorem ok_is_barred (F:FunAt K mg "is_barred" s_is_barred ["found", "one", "j"]) (T:Tx mg) (O_below:Ok P w K mg base "below" 1 ["one", "other"] spBelow):Ok P w K mg base "is_barred" 2 ["found", "one", "j"] spBarred:=by
 refine F.okJ sc_is_barred (fun vs H Q E h=>?_) (fun cdv f A outer s H vs Q E hr h=>?_)
 ·obtain ⟨l,y,fs,fss,ys,j,rfl,_⟩:=h
  rfl
 ·obtain ⟨l,_,fs,fss,ys,j,rfl,hl,hI,⟨y,rfl,hy⟩,hj,hn,hL,k⟩:=h
  refine ⟨_,(jb_cons (js_for (ji_list K (jv 0)) (jg_name (i:=3) sc_is_barred.nd rfl (Or.inl rfl))
 (jb_one (js_if (jt_w (jw_and (jt_eq (j_ixT K (jv 3) (jv 2)) (j_ixT K (jv 1) (jv 2))) (jw_and1 (jt_tru K (j_call O_below (hr.mono (by omega)) rfl (ja_cons (jv 3) (ja_cons (jv 1) ja_nil)))))))
 (jb_one (js_ret j_bl))
 jb_nil)))
 (jb_one (js_ret j_bl))),?_⟩
  refine ⟨_,rfl,l,rfl,⟨_,SqL.of hl⟩,?_⟩
  refine for_list (K:=K) (a:=l) (xs:=fs) (fun i σ H'=>Ex1 fun o=>An3 (σ=[some (.ref l),some (.ref y),some (.int j),o]) (Same H H') (Bar (fss.take i) ys j=false)) ⟨none,rfl,Same.refl H,rfl⟩ (fun i σ H' _ ⟨_,_,s',_⟩=>SqL.of (s' _ _ hl)) ?_ ?_
  ·rintro i x σ H' hx ⟨o,rfl,s',hB⟩
   obtain ⟨r,hr,hr2,hr3⟩:=hI.mem hx
   obtain ⟨xa,rfl,hxa⟩:=hr3.same s'
   have hrl:=hL r hr
   have eB:Bar (fss.take (i+1)) ys j=(decide (r.getD j 0=ys.getD j 0) && Bel r ys):=by
    unfold Bar at hB ⊢
    rw [List.take_add_one,hr2,List.any_append,hB]
    simp
   have eall:(decide (r.getD j 0=ys.getD j 0) && Bel r ys)=true→Bar fss ys j=true:=fun e=>by
    unfold Bar
    rw [List.any_eq_true]
    exact ⟨r,hr,e⟩
   dsimp only [gName]
   refine ⟨_,rfl,_,rfl,xa,_,_,_,rfl,rfl,SqT.of hxa,at_int (by omega),_,rfl,_,rfl,y,_,_,_,rfl,rfl,SqT.of (s' _ _ hy),at_int hj,rfl,_,rfl,?_⟩
   have ed:decide (V.int (r.getD j 0)=V.int (ys.getD j 0))=decide (r.getD j 0=ys.getD j 0):=by simp
   rw [ed]
   cases e:decide (r.getD j 0=ys.getD j 0) with
   | false =>
    rw [e] at eB
    refine iteF (iteF ?_)
    exact ⟨_,rfl,s',eB⟩
   | true =>
    rw [e] at eB eall
    refine iteT ⟨_,rfl,_,rfl,_,_,r,ys,rfl,⟨xa,rfl,hxa⟩,⟨y,rfl,s' _ _ hy⟩,by omega,fun H2 s2=>⟨_,rfl,?_⟩⟩
    cases e2:Bel r ys with
    | false =>
     rw [e2] at eB
     exact iteF ⟨_,rfl,s'.trans s2,eB⟩
    | true =>
     rw [e2] at eall
     refine iteT ?_
     have:=k H2 (s'.trans s2)
     rw [eall rfl] at this
     exact this
  ·rintro σ H' ⟨o,rfl,s',hB⟩
   rw [hI.1,List.take_length] at hB
   have:=k H' s'
   rw [hB] at this
   exact this
end
def IsNx (rss:LLI) (cs:List (Option Int)) (F:LLI) (u v:List Int):Prop:=∃ j,j∈StP rss cs u∧v=bump u j∧Bar F v j=false
theorem inl_inj {a b:List Int} (h:a.map (Sum.inl:Int→Key)=b.map Sum.inl):a=b:=by
 induction a generalizing b with
 | nil=>cases b with | nil=>rfl | cons _ _=>cases h
 | cons x a ih =>
  cases b with
  | nil=>cases h
  | cons y b =>
   injection h with h1 h2
   injection h1 with h1
   rw [h1,ih h2]
theorem key_none {kvs:List (List Key×V)} {mss:LLI} {r:List Int} (e:kvs.map (·.1)=IK mss):valV kvs (r.map Sum.inl)=none↔r ∉ mss:=by
 constructor
 ·intro h hm
  refine valV_not h ?_
  rw [e]
  exact List.mem_map.mpr ⟨r,hm,rfl⟩
 ·intro h
  cases hv:valV kvs (r.map Sum.inl) with
  | none=>rfl
  | some v =>
   have:=valV_in hv
   rw [e] at this
   obtain ⟨q,hq,e2⟩:=List.mem_map.mp this
   exact absurd (inl_inj e2 ▸ hq) h
theorem key_some {kvs:List (List Key×V)} {mss:LLI} {r:List Int} (e:kvs.map (·.1)=IK mss):(valV kvs (r.map Sum.inl)).isSome=decide (r∈mss):=by
 by_cases h:r∈mss
 ·rw [decide_eq_true h]
  cases hv:valV kvs (r.map Sum.inl) with
  | none=>exact absurd h ((key_none e).mp hv)
  | some v=>rfl
 ·rw [decide_eq_false h,(key_none e).mpr h]
  rfl
theorem kv_int (r:List Int):(r.map (Sum.inl:Int→Key)).map kV=r.map V.int:=by rw [List.map_map]; rfl
theorem its_off {H H':Hp} {vs:List V} {rss:LLI} {d:Addr} {kvs:List (List Key×V)} (h:Its H vs rss) (hd:H d=some (.dT kvs)) (o:Off [d] H H'):Its H' vs rss :=
 ⟨h.1,fun i v e=>let ⟨r,e1,a,e2,q⟩:=h.2 i v e; ⟨r,e1,a,e2,o _ _ (by simpa using ne_of q hd (by intro z; cases z)) q⟩⟩
theorem same_off {H H1 H2:Hp} {a:Addr} (s:Same H H1) (ha:H a=none) (o:Off [a] H1 H2):Same H H2:=fun b u e=>o b u (by simpa using ne_of_none e ha) (s b u e)
structure NxPre (H:Hp) (a c f l:Addr) (us:List V) (rss:LLI) (cs:List (Option Int)) (fs:List V) (F:LLI) (ls:List V) (L:LLI):Prop where
 ha:H a=some (.tup us)
 hI:Its H us rss
 hc:H c=some (.tup (cs.map cV))
 hf:H f=some (.lst fs)
 hF:Its H fs F
 hl:H l=some (.lst ls)
 hL:Its H ls L
 us1:us.length≤1000
 n1:1≤cs.length
 n2:cs.length≤100
 hR:Rs cs.length rss
 fw:∀ v∈F,v.length=cs.length
 lw:∀ v∈L,v.length=cs.length∧Sm v
 big:L.length*cs.length+100≤100000
section
variable {P:Program} {w:World} {K:PySem.W.Frag} {mg:Str→Option Value} {base:Heap}
inductive IspNext (vs:List V) (H:Hp) (Q:VK) (E:XK):Prop
 | mk (a c f l:Addr) (r:V) (us:List V) (rss:LLI) (cs:List (Option Int)) (fs:List V) (F:LLI) (ls:List V) (L:LLI) (_:vs=[.ref a,.ref c,.ref f,.ref l,r]) (_:NxPre H a c f l us rss cs fs F ls L) (_:(r=.non∨∃ m:Int,r=.int m∧0≤m)) (_:∀ p zs tss H',Same H H'→H p=none→H' p=some (.lst zs)→Its H' zs tss→Rises tss→tss.Nodup→(∀ v∈tss,∃ u∈L,IsNx rss cs F u v)→((∀ u∈L,∀ v,IsNx rss cs F u v→v∈tss)∨∃ m:Int,r=.int m∧m < tss.length)→tss.length≤L.length*cs.length→(∀ m:Int,r=.int m→(tss.length:Int)≤m+cs.length)→Q (.ref p) H'):IspNext  vs H Q E
def spNext:Sp:=fun vs H Q E=>IspNext  vs H Q E
theorem sc_next_level:FnScope ["rows", "caps", "found", "level", "room", "met", "one", "j", "more"] ["rows", "caps", "found", "level", "room"] (defScope s_next_level):=⟨rfl,rfl,rfl,by decide +kernel,rfl,by decide +kernel,by decide +kernel⟩
theorem ok_next_level (F':FunAt K mg "next_level" s_next_level ["rows", "caps", "found", "level", "room"]) (T:Tx mg) (O_steps:Ok P w K mg base "steps" 4 ["rows", "caps", "one"] spSteps) (O_is_barred:Ok P w K mg base "is_barred" 2 ["found", "one", "j"] spBarred):Ok P w K mg base "next_level" 5 ["rows", "caps", "found", "level", "room"] spNext:=by
 refine F'.okJ sc_next_level (fun vs H Q E h=>?_) (fun cdv f A outer s H vs Q E hr h=>?_)
 ·obtain ⟨a,c,f,l,r,us,rss,cs,fs,F,ls,L,rfl,_⟩:=h
  rfl
 ·obtain ⟨a,c,f,l,r,us,rss,cs,fs,F,ls,L,rfl,N,hroom,k⟩:=h
  have hu:=hr.u60
  have hz:(100000:Nat)≤sizeLine:=by rw [sizeLine_eq]; decide
  have hbig:=N.big
  refine ⟨_,(jb_cons (js_set (i:=5) sc_next_level.nd rfl (Or.inl rfl) j_dnewT)
 (jb_cons (js_for (ji_list K (jv 3)) (jg_name (i:=6) sc_next_level.nd rfl (Or.inl rfl))
 (jb_cons (js_for (ji_list K (j_call O_steps (hr.mono (by omega)) rfl (ja_cons (jv 0) (ja_cons (jv 1) (ja_cons (jv 6) ja_nil))))) (jg_tup K 2 (jgs_cons (jg_name (i:=7) sc_next_level.nd rfl (Or.inl rfl)) (jgs_cons (jg_name (i:=8) sc_next_level.nd rfl (Or.inl rfl)) jgs_nil)))
 (jb_one (js_if (jt_w (jw_and (jt_dnotin hu (jv 8) (jv 5) (by with_unfolding_all rfl)) (jw_and1 (jt_not (jt_tru K (j_call O_is_barred (hr.mono (by omega)) rfl (ja_cons (jv 2) (ja_cons (jv 8) (ja_cons (jv 7) ja_nil)))))))))
 (jb_one (js_dput hu (jv 5) (jv 8) j_bl))
 jb_nil)))
 (jb_one (js_if (jt_w (jw_and (jt_notN (jv 4) j_non) (jw_and1 (jt_gt (jc_lenT rfl T.b_len (ja_cons (jv 5) ja_nil)) (jv 4)))))
 (jb_one js_break)
 jb_nil))))
 (jb_one (js_ret (jc_sortD rfl T.b_sorted (ja_cons (jv 5) ja_nil)))))),?_⟩
  intro d hd
  dsimp only [gName]
  have s0:=(Same.refl H).upd (o:=.dT []) hd
  have e0:upd H d (.dT []) d=some (.dT []):=upd_same
  generalize upd H d (.dT [])=H0 at s0 e0
  have fin:∀ (kvs:List (List Key×V)) (mss:LLI) (σ:L2.St) (H':Hp),σ[5]?=some (some (.ref d))→Same H H'→H' d=some (.dT kvs)→kvs.map (·.1)=IK mss→mss.Nodup→(∀ v∈mss,∃ u∈L,IsNx rss cs F u v)→((∀ u∈L,∀ v,IsNx rss cs F u v→v∈mss)∨∃ m:Int,r=.int m∧m < mss.length)→mss.length≤L.length*cs.length→(∀ m:Int,r=.int m→(mss.length:Int)≤m+cs.length) →
    tRet (tCB rSortD (tCons (tVar 5) tNil)) { nx:=fun x H'=>Q V.non H',rt:=Q } σ H':=by
   intro kvs mss σ H' hσ s' hd' hk hn h1 h2 h3 h4
   refine ⟨_,hσ,d,kvs,mss,rfl,hd',hk,fun v hv=>?_,fun p zs tss hp hI hpm hri=>?_⟩
   ·obtain ⟨u,hu,j,_,rfl,_⟩:=h1 v hv
    rw [bump_len,(N.lw u hu).1]
    exact N.n1
   refine k p zs tss _ (s'.upd hp) (s'.free hp) upd_same (hI.same ((Same.refl H').upd hp)) hri (hpm.symm.nodup hn) (fun v hv=>h1 v (hpm.mem_iff.mp hv)) ?_ (by rw [hpm.length_eq]; exact h3) fun m e=>by rw [hpm.length_eq]; exact h4 m e
   rcases h2 with h2 | ⟨m,e,h2⟩
   ·exact .inl fun u hu v hv=>hpm.mem_iff.mpr (h2 u hu v hv)
   ·exact .inr ⟨m,e,by rw [hpm.length_eq]; exact h2⟩
  refine ⟨_,rfl,l,rfl,⟨_,SqL.of (s0 _ _ N.hl)⟩,?_⟩
  refine for_list (K:=K) (a:=l) (xs:=ls) (fun i σ H'=>Ex5 fun o6 o7 o8 kvs mss=>An9 (σ=[some (.ref a),some (.ref c),some (.ref f),some (.ref l),some r,some (.ref d),o6,o7,o8]) (Same H H') (H' d=some (.dT kvs)) (kvs.map (·.1)=IK mss) (mss.Nodup) ((∀ v∈mss,∃ u∈L,IsNx rss cs F u v)) ((∀ u∈L.take i,∀ v,IsNx rss cs F u v→v∈mss)) (mss.length≤i*cs.length) (∀ m:Int,r=.int m→(mss.length:Int)≤m))
   ⟨none,none,none,[],[],rfl,s0,e0,rfl,List.nodup_nil,(fun _ z=>nomatch z),(fun _ z=>by simp at z),by simp,fun m e=>?_⟩ (fun i σ H' _ h=>by obtain ⟨_,_,_,_,_,_,s',_⟩:=h; exact SqL.of (s' _ _ N.hl)) ?_ ?_
  ·rcases hroom with e' | ⟨m',e',hm'⟩
   ·rw [e'] at e; cases e
   ·rw [e'] at e; cases e; simpa using hm'
  ·rintro i x σ H' hx ⟨o6,o7,o8,kvs,mss,rfl,s',hd',hk,hn,h1,h2,h3,h4⟩
   obtain ⟨ys,hy1,hy2,hy3⟩:=N.hL.mem hx
   obtain ⟨yw,ysm⟩:=N.lw ys hy1
   have hil:i < L.length:=(List.getElem?_eq_some_iff.mp hy2).1
   have him:(i+1)*cs.length≤L.length*cs.length:=Nat.mul_le_mul_right _ hil
   have him2:(i+1)*cs.length=i*cs.length+cs.length:=by rw [Nat.add_mul,Nat.one_mul]
   dsimp only [gName]
   have hR':Rs ys.length rss:=by rw [yw]; exact N.hR
   refine ⟨_,rfl,_,rfl,_,rfl,a,c,x,us,rss,cs,ys,rfl,s' _ _ N.ha,N.hI.same s',s' _ _ N.hc,hy3.same s',N.us1,by rw [yw]; exact N.n2,yw.symm,hR',ysm,fun p1 ps H1 s1 hp1 hP1=>?_⟩
   have hd1:=s1 _ _ hd'
   have s1':=s'.trans s1
   refine ⟨p1,rfl,⟨_,SqL.of hp1⟩,?_⟩
   have hst:∀ j∈StP rss cs ys,j < ys.length:=fun j hj=>List.mem_range.mp (List.mem_filter.mp (List.mem_filter.mp hj).1).1
   have hsl:(StP rss cs ys).length≤cs.length:=by rw [← yw]; exact Nat.le_trans (List.length_filter_le _ _) (Nat.le_trans (List.length_filter_le _ _) (by simp))
   have hdp:d≠p1:=ne_of hd1 hp1 (by intro z; cases z)
   refine for_list (K:=K) (a:=p1) (xs:=ps) (fun i2 σ H2=>Ex4 fun o7 o8 kvs mss=>An10 (σ=[some (.ref a),some (.ref c),some (.ref f),some (.ref l),some r,some (.ref d),some x,o7,o8]) (Off [d] H1 H2) (H2 d=some (.dT kvs)) (kvs.map (·.1)=IK mss) (mss.Nodup) ((∀ v∈mss,∃ u∈L,IsNx rss cs F u v)) ((∀ u∈L.take i,∀ v,IsNx rss cs F u v→v∈mss)) ((∀ j∈(StP rss cs ys).take i2,Bar F (bump ys j) j=false→bump ys j∈mss)) (mss.length≤i*cs.length+i2) (∀ m:Int,r=.int m→(mss.length:Int)≤m+i2))
    ⟨o7,o8,kvs,mss,rfl,Off.refl _ _,hd1,hk,hn,h1,h2,(fun _ z=>by simp at z),h3,fun m e=>by have:=h4 m e; omega⟩ (fun i2 σ H2 _ h=>by obtain ⟨_,_,_,_,_,o2,_⟩:=h; exact SqL.of (o2 _ _ (by simpa using hdp.symm) hp1)) ?_ ?_
   ·rintro i2 q σ H2 hq ⟨o7,o8,kvs,mss,rfl,off2,hd2,hk,hn,h1,h2,h5,h3,h4⟩
    obtain ⟨j,b,v,ej,rfl,hb,hv⟩:=hP1.2 i2 q hq
    obtain ⟨va,rfl,hva⟩:=hv
    have hjm:=List.mem_of_getElem? ej
    have hj:=hst j hjm
    have hb2:=off2 _ _ (by simpa using ne_of hb hd1 (by intro z; cases z)) hb
    have hva2:=off2 _ _ (by simpa using ne_of hva hd1 (by intro z; cases z)) hva
    have hf1:=s1' _ _ N.hf
    have hf2:=off2 _ _ (by simpa using ne_of hf1 hd1 (by intro z; cases z)) hf1
    have hF2:=its_off (N.hF.same s1') hd1 off2
    have hi2:i2 < (StP rss cs ys).length:=(List.getElem?_eq_some_iff.mp ej).1
    have hkl:kvs.length=mss.length:=by
     have:=congrArg List.length hk
     simpa [IK] using this
    have h5n:∀ mss':LLI,(∀ v∈mss,v∈mss')→(Bar F (bump ys j) j=false→bump ys j∈mss')→∀ j'∈(StP rss cs ys).take (i2+1),Bar F (bump ys j') j'=false→bump ys j'∈mss':=fun mss' hsub hjj j' hj' hb'=>by
     rw [List.take_add_one,ej] at hj'
     rcases List.mem_append.mp hj' with z | z
     ·exact hsub _ (h5 j' z hb')
     ·have:j'=j:=by simpa using z
      subst this
      exact hjj hb'
    refine ⟨b,[.int j,.ref va],rfl,SqT.of hb2,rfl,.int j,[.ref va],rfl,.ref va,[],rfl,rfl,?_⟩
    refine ⟨_,rfl,_,rfl,d,_,rfl,DGet.t hd2 (by rw [kv_int]; exact hva2),_,rfl,?_⟩
    rw [key_some hk]
    by_cases hm:bump ys j∈mss
    ·rw [decide_eq_true hm]
     refine iteF (iteF ?_)
     exact ⟨_,_,kvs,mss,rfl,off2,hd2,hk,hn,h1,h2,h5n mss (fun _ z=>z) (fun _=>hm),by omega,fun m e=>by have:=h4 m e; omega⟩
    ·rw [decide_eq_false hm]
     refine iteT ⟨_,rfl,_,rfl,_,rfl,f,.ref va,fs,F,bump ys j,j,rfl,hf2,hF2,⟨va,rfl,hva2⟩,by rw [bump_len]; exact hj,by rw [bump_len,yw]; have:=N.n2; omega,fun v hv=>by rw [bump_len,yw]; exact N.fw v hv,fun H3 s3=>⟨_,rfl,?_⟩⟩
     have hd3:=s3 _ _ hd2
     cases e:Bar F (bump ys j) j with
     | true =>
      refine iteF ?_
      exact ⟨_,_,kvs,mss,rfl,off2.trans s3.off,hd3,hk,hn,h1,h2,h5n mss (fun _ z=>z) (fun z=>by rw [e] at z; cases z),by omega,fun m e=>by have:=h4 m e; omega⟩
     | false =>
      refine iteT ?_
      refine ⟨_,rfl,_,rfl,d,_,rfl,DPut.t hd3 (by rw [kv_int]; exact s3 _ _ hva2) (by omega),?_⟩
      rw [putK_new _ ((key_none hk).mpr hm)]
      refine ⟨_,_,_,mss++[bump ys j],rfl,(off2.trans s3.off).set (by simp),upd_same,by rw [List.map_append,hk]; simp [IK],nd_snoc hn hm,fun v hv=>?_,fun u hu v hv=>List.mem_append_left _ (h2 u hu v hv),h5n _ (fun v hv=>List.mem_append_left _ hv) (fun _=>by simp),by rw [List.length_append]; simp; omega,fun m e=>by have:=h4 m e; rw [List.length_append]; simp; omega⟩
      rcases List.mem_append.mp hv with z | z
      ·exact h1 v z
      ·rw [List.mem_singleton.mp z]
       exact ⟨ys,hy1,j,hjm,rfl,e⟩
   ·rintro σ H2 ⟨o7,o8,kvs,mss,rfl,off2,hd2,hk,hn,h1,h2,h5,h3,h4⟩
    rw [hP1.1,List.take_length] at h5
    have hkl:kvs.length=mss.length:=by
     have:=congrArg List.length hk
     simpa [IK] using this
    have hpl:=hP1.1
    have s2:Same H H2:=same_off s1' hd off2
    have h2':∀ u∈L.take (i+1),∀ v,IsNx rss cs F u v→v∈mss:=fun u hu v hv=>by
     rw [List.take_add_one,hy2] at hu
     rcases List.mem_append.mp hu with z | z
     ·exact h2 u z v hv
     ·have:u=ys:=by simpa using z
      subst this
      obtain ⟨j,hj,rfl,hb⟩:=hv
      exact h5 j hj hb
    rcases hroom with rfl | ⟨m,rfl,hm0⟩
    ·refine ⟨_,rfl,rfl,_,rfl,iteF (iteF ?_)⟩
     exact ⟨_,_,_,kvs,mss,rfl,s2,hd2,hk,hn,h1,h2',by omega,fun m e=>by cases e⟩
    ·refine ⟨_,rfl,rfl,_,rfl,iteT ?_⟩
     refine ⟨_,rfl,d,kvs,rfl,hd2,_,rfl,_,_,rfl,rfl,_,rfl,ite2 (fun e=>?_) (fun e=>?_)⟩
     ·have e':m < (kvs.length:Int):=of_decide_eq_true e
      have h4':=h4 m rfl
      exact fin kvs mss _ H2 rfl s2 hd2 hk hn h1 (.inr ⟨m,rfl,by omega⟩) (by omega) fun m' e2=>by cases e2; omega
     ·have e':¬ m < (kvs.length:Int):=fun z=>e (decide_eq_true z)
      exact ⟨_,_,_,kvs,mss,rfl,s2,hd2,hk,hn,h1,h2',by omega,fun m' e2=>by cases e2; omega⟩
  ·rintro σ H' ⟨o6,o7,o8,kvs,mss,rfl,s',hd',hk,hn,h1,h2,h3,h4⟩
   rw [N.hL.1,List.take_length] at h2
   exact fin kvs mss _ H' rfl s' hd' hk hn h1 (.inl h2) (by rw [N.hL.1] at h3; exact h3) fun m e=>by have:=h4 m e; omega
end
noncomputable def ffl (ra ca:Addr) (b:Bool) (ah af aw:Addr):List (Str×V):=[("rows",.ref ra),("caps",.ref ca),("begun",.bl b),("here",.ref ah),("found",.ref af),("walked",.ref aw)]
section
variable (ra ca ah ah' af aw:Addr) (b b':Bool)
theorem ffl_rows:(ffl ra ca b ah af aw).lookup ("rows" : Str)=some (.ref ra):=by with_unfolding_all rfl
theorem ffl_caps:(ffl ra ca b ah af aw).lookup ("caps" : Str)=some (.ref ca):=by with_unfolding_all rfl
theorem ffl_begun:(ffl ra ca b ah af aw).lookup ("begun" : Str)=some (.bl b):=by with_unfolding_all rfl
theorem ffl_here:(ffl ra ca b ah af aw).lookup ("here" : Str)=some (.ref ah):=by with_unfolding_all rfl
theorem ffl_found:(ffl ra ca b ah af aw).lookup ("found" : Str)=some (.ref af):=by with_unfolding_all rfl
theorem ffl_walked:(ffl ra ca b ah af aw).lookup ("walked" : Str)=some (.ref aw):=by with_unfolding_all rfl
theorem put_here:putF "here" (.ref ah') (ffl ra ca b ah af aw)=ffl ra ca b ah' af aw:=by with_unfolding_all rfl
theorem put_begun:putF "begun" (.bl b') (ffl ra ca b ah af aw)=ffl ra ca b' ah af aw:=by with_unfolding_all rfl
theorem put_init:putF "walked" (.ref aw) (putF "found" (.ref af) (putF "here" (.ref ah) (putF "begun" (.bl b) (putF "caps" (.ref ca) (putF "rows" (.ref ra) [])))))=ffl ra ca b ah af aw:=by with_unfolding_all rfl
theorem ffl_told:(ffl ra ca b ah af aw).lookup ("told" : Str)=none:=by with_unfolding_all rfl
theorem ffl_paper:(ffl ra ca b ah af aw).lookup ("paper" : Str)=none:=by with_unfolding_all rfl
theorem ffl_ended:(ffl ra ca b ah af aw).lookup ("ended" : Str)=none:=by with_unfolding_all rfl
theorem ffl_step_within:(ffl ra ca b ah af aw).lookup ("step_within" : Str)=none:=by with_unfolding_all rfl
end
structure FiTx (K:PySem.W.Frag) (C:Addr):Prop where
 cl:Cls K C
 n1:NoAttr K C "rows"
 n2:NoAttr K C "caps"
 n3:NoAttr K C "begun"
 n4:NoAttr K C "here"
 n5:NoAttr K C "found"
 n6:NoAttr K C "walked"
structure FAt (C:Addr) (H:Hp) (p ra ca af aw:Addr) (b:Bool) (L F W:LLI):Prop where
 ob:∃ dx ah hs,H p=some (.ins C dx (ffl ra ca b ah af aw))∧H ah=some (.lst hs)∧Its H hs L∧ah≠af∧ah≠aw
 hf:∃ fs,H af=some (.lst fs)∧Its H fs F
 hw:∃ ws,H aw=some (.lst ws)∧Its H ws W
 ne:af≠aw
theorem FAt.same {C:Addr} {H H':Hp} {p ra ca af aw:Addr} {b:Bool} {L F W:LLI} (h:FAt C H p ra ca af aw b L F W) (s:Same H H'):FAt C H' p ra ca af aw b L F W:=by
 obtain ⟨⟨dx,ah,hs,h1,h2,h3,h4,h5⟩,⟨fs,f1,f2⟩,⟨ws,w1,w2⟩,ne⟩:=h
 exact ⟨⟨dx,ah,hs,s _ _ h1,s _ _ h2,h3.same s,h4,h5⟩,⟨fs,s _ _ f1,f2.same s⟩,⟨ws,s _ _ w1,w2.same s⟩,ne⟩
structure SyAt (H:Hp) (a c:Addr) (rss:LLI) (cs:List (Option Int)):Prop where
 ex:∃ us,H a=some (.tup us)∧Its H us rss∧us.length≤1000
 hc:H c=some (.tup (cs.map cV))
 n1:1≤cs.length
 n2:cs.length≤100
 hR:Rs cs.length rss
theorem SyAt.same {H H':Hp} {a c:Addr} {rss:LLI} {cs:List (Option Int)} (h:SyAt H a c rss cs) (s:Same H H'):SyAt H' a c rss cs:=by
 obtain ⟨⟨us,h1,h2,h3⟩,hc,n1,n2,hR⟩:=h
 exact ⟨⟨us,s _ _ h1,h2.same s,h3⟩,s _ _ hc,n1,n2,hR⟩
structure StR (rss:LLI) (cs:List (Option Int)) (b:Bool) (L F:LLI) (r:V) (L':LLI):Prop where
 ri:Rises L'
 nd:L'.Nodup
 fst:b=false→∀ v,v∈L'↔v∈Firsts cs
 snd:b=true→∀ v∈L',∃ u∈L,IsNx rss cs F u v
 all:b=true→(∀ u∈L,∀ v,IsNx rss cs F u v→v∈L')∨∃ m:Int,r=.int m∧m < L'.length
 len:L'.length≤cs.length+L.length*cs.length
 few:∀ m:Int,r=.int m→(L'.length:Int)≤m+cs.length
theorem unitv_get (n j i:Nat) (hi:i < n):(unitv n j).getD i 0=if i=j then 1 else 0:=by
 unfold unitv
 simp [List.getD_eq_getElem?_getD,hi]
theorem unitv_len (n j:Nat):(unitv n j).length=n:=by simp [unitv]
theorem firsts_nd (cs:List (Option Int)):(Firsts cs).Nodup:=by
 unfold Firsts
 refine List.Nodup.sublist (List.filter_sublist) ?_
 unfold List.Nodup
 rw [List.pairwise_map]
 refine (List.nodup_range (n:=cs.length)).imp_of_mem fun {i j} hi hj hne e=>?_
 have h1:(unitv cs.length i).getD i 0=(unitv cs.length j).getD i 0:=congrArg (fun l:List Int=>l.getD i 0) e
 rw [unitv_get _ _ _ (List.mem_range.mp hi),unitv_get _ _ _ (List.mem_range.mp hi),if_pos rfl,if_neg hne] at h1
 omega
theorem lp {f:Str} {v:V} {fs:List (Str×V)} {k:Nat} (h:fs.length≤k):(putF f v fs).length≤k+1:=by
 refine Nat.le_trans ?_ (Nat.succ_le_succ h)
 clear h
 induction fs with
 | nil=>exact Nat.le_refl _
 | cons p r ih =>
  obtain ⟨g,x⟩:=p
  show (if g=f then (g,v)::r else (g,x)::putF f v r).length≤_
  split
  ·simp
  ·simpa using ih
section
variable {P:Program} {w:World} {K:PySem.W.Frag} {mg:Str→Option Value} {base:Heap} {C:Addr}
inductive IspFInit (C:Addr) (vs:List V) (H:Hp) (Q:VK) (E:XK):Prop
 | mk (p dx ra ca:Addr) (_:vs=[.ref p,.ref ra,.ref ca]) (_:H p=some (.ins C dx [])) (_:∀ (af aw:Addr) (H':Hp),H af=none→H aw=none→FAt C H' p ra ca af aw false [] [] []→(∃ dx ah,H' p=some (.ins C dx (ffl ra ca false ah af aw))∧H ah=none)→(∀ b o,H b=some o→b≠p→H' b=some o)→Q .non H'):IspFInit C vs H Q E
def spFInit (C:Addr):Sp:=fun vs H Q E=>IspFInit C vs H Q E
theorem sc_Finder___init__:FnScope ["self", "rows", "caps"] ["self", "rows", "caps"] (defScope s_Finder___init__):=⟨rfl,rfl,rfl,by decide +kernel,rfl,by decide +kernel,by decide +kernel⟩
theorem ok_finit (FM:MethAt K C "__init__" "Finder.__init__" s_Finder___init__ ["self", "rows", "caps"]) (U:FiTx K C):MethOk P w K mg base C "__init__" 1 ["self", "rows", "caps"] (spFInit C):=by
 refine FM.fnJ sc_Finder___init__ (fun vs H Q E h=>?_) (fun cdv f A outer s H vs Q E hr h=>?_)
 ·obtain ⟨p,dx,ra,ca,rfl,_⟩:=h
  rfl
 ·obtain ⟨p,dx,ra,ca,rfl,hp,k⟩:=h
  refine ⟨_,(jb_cons (js_fld K (jv 0) (jv 1))
 (jb_cons (js_fld K (jv 0) (jv 2))
 (jb_cons (js_fld K (jv 0) j_bl)
 (jb_cons (js_fld K (jv 0) (j_lst ja_nil))
 (jb_cons (js_fld K (jv 0) (j_lst ja_nil))
 (jb_one (js_fld K (jv 0) (j_lst ja_nil)))))))),?_⟩
  have l0:([]:List (Str×V)).length≤0:=Nat.le_refl _
  refine ⟨_,rfl,_,rfl,p,C,dx,_,rfl,hp,U.cl,U.n1,Nat.lt_of_le_of_lt l0 (by decide),?_⟩
  refine ⟨_,rfl,_,rfl,p,C,dx,_,rfl,upd_same,U.cl,U.n2,Nat.lt_of_le_of_lt (lp l0) (by decide),?_⟩
  rw [upd_upd]
  refine ⟨_,rfl,p,C,dx,_,rfl,upd_same,U.cl,U.n3,Nat.lt_of_le_of_lt (lp (lp l0)) (by decide),?_⟩
  rw [upd_upd]
  generalize hX:putF "begun" (V.bl false) (putF "caps" (.ref ca) (putF "rows" (.ref ra) []))=X3
  have l3:X3.length≤3:=by rw [← hX]; exact lp (lp (lp l0))
  have k1:∀ b o,H b=some o→b≠p→upd H p (.ins C dx X3) b=some o:=fun b o e hb=>by rw [upd_ne hb]; exact e
  have e1:upd H p (.ins C dx X3) p=some (.ins C dx X3):=upd_same
  have n1:∀ b,upd H p (.ins C dx X3) b=none→H b=none:=fun b e=>by
   by_cases hb:b=p
   ·subst hb; rw [upd_same] at e; cases e
   ·rwa [upd_ne hb] at e
  generalize upd H p (.ins C dx X3)=H1 at k1 e1 n1
  refine ⟨Nat.zero_le _,fun ah hah=>?_⟩
  have pa:p≠ah:=ne_of_none e1 hah
  refine ⟨_,rfl,p,C,dx,_,rfl,by rw [upd_ne pa]; exact e1,U.cl,U.n4,by omega,?_⟩
  refine ⟨Nat.zero_le _,fun af haf=>?_⟩
  have pf:p≠af:=fun z=>by subst z; rw [upd_same] at haf; cases haf
  have haf1:upd H1 ah (.lst []) af=none:=by rwa [upd_ne pf.symm] at haf
  have ahf:ah≠af:=ne_of_none (o:=.lst []) upd_same haf1
  have haf0:H1 af=none:=by rwa [upd_ne ahf.symm] at haf1
  refine ⟨_,rfl,p,C,dx,_,rfl,by rw [upd_ne pf]; exact upd_same,U.cl,U.n5,by have:=lp (f := "here") (v:=.ref ah) l3; omega,?_⟩
  refine ⟨Nat.zero_le _,fun aw haw=>?_⟩
  have pw:p≠aw:=fun z=>by subst z; rw [upd_same] at haw; cases haw
  have haw1:=haw
  rw [upd_ne pw.symm] at haw1
  have afw:af≠aw:=ne_of_none (o:=.lst []) upd_same haw1
  rw [upd_ne afw.symm,upd_ne pw.symm] at haw1
  have ahw:ah≠aw:=ne_of_none (o:=.lst []) upd_same haw1
  rw [upd_ne ahw.symm] at haw1
  refine ⟨_,rfl,p,C,dx,_,rfl,by rw [upd_ne pw]; exact upd_same,U.cl,U.n6,by have:=lp (f := "found") (v:=.ref af) (lp (f := "here") (v:=.ref ah) l3); omega,?_⟩
  refine k af aw _ (n1 _ haf0) (n1 _ haw1) ⟨⟨dx,ah,[],?_,?_,.nil,ahf,ahw⟩,⟨[],?_,.nil⟩,⟨[],?_,.nil⟩,afw⟩ ⟨dx,ah,by rw [upd_same,← hX,← put_init],n1 _ hah⟩ fun b o e hb=>?_
  ·rw [upd_same,← hX,← put_init]
  ·rw [upd_ne pa.symm,upd_ne ahw,upd_ne pa.symm,upd_ne ahf,upd_ne pa.symm,upd_same]
  ·rw [upd_ne pf.symm,upd_ne afw,upd_ne pf.symm,upd_same]
  ·rw [upd_ne pw.symm,upd_same]
  ·have e2:=k1 b o e hb
   rw [upd_ne hb,upd_ne (ne_of_none e2 haw1),upd_ne hb,upd_ne (ne_of_none e2 haf0),upd_ne hb,upd_ne (ne_of_none e2 hah)]
   exact e2
theorem its_app {H:Hp}:∀ {vs ws:List V} {rss tss:LLI},Its H vs rss→Its H ws tss→Its H (vs++ws) (rss++tss):=by
 intro vs ws rss tss h g
 refine ⟨by rw [List.length_append,List.length_append,h.1,g.1],fun i v e=>?_⟩
 rcases Nat.lt_or_ge i vs.length with hi | hi
 ·rw [List.getElem?_append_left hi] at e
  obtain ⟨r,e1,e2⟩:=h.2 i v e
  exact ⟨r,by rw [List.getElem?_append_left (by rw [← h.1]; exact hi)]; exact e1,e2⟩
 ·rw [List.getElem?_append_right hi] at e
  obtain ⟨r,e1,e2⟩:=g.2 _ v e
  exact ⟨r,by rw [List.getElem?_append_right (by rw [← h.1]; exact hi),← h.1]; exact e1,e2⟩
theorem its_upd {H:Hp} {vs:List V} {rss:LLI} {c:Addr} {o o':HO} (h:Its H vs rss) (hc:H c=some o) (hn:∀ xs,HO.tup xs≠o):Its (upd H c o') vs rss :=
 ⟨h.1,fun i v e=>let ⟨r,e1,a,e2,q⟩:=h.2 i v e; ⟨r,e1,a,e2,by rw [upd_ne (ne_of q hc (hn _))]; exact q⟩⟩
theorem its_off1 {H H':Hp} {vs:List V} {rss:LLI} {c:Addr} {o:HO} (h:Its H vs rss) (hc:H c=some o) (hn:∀ xs,HO.tup xs≠o) (off:Off [c] H H'):Its H' vs rss :=
 ⟨h.1,fun i v e=>let ⟨r,e1,a,e2,q⟩:=h.2 i v e; ⟨r,e1,a,e2,off _ _ (by simpa using ne_of q hc (hn _)) q⟩⟩
theorem sy_off1 {H H':Hp} {a c:Addr} {rss:LLI} {cs:List (Option Int)} {b:Addr} {o:HO} (h:SyAt H a c rss cs) (hb:H b=some o) (hn:∀ xs,HO.tup xs≠o) (off:Off [b] H H'):SyAt H' a c rss cs:=by
 obtain ⟨⟨us,h1,h2,h3⟩,hc,n1,n2,hR⟩:=h
 exact ⟨⟨us,off _ _ (by simpa using ne_of h1 hb (hn _)) h1,its_off1 h2 hb hn off,h3⟩,off _ _ (by simpa using ne_of hc hb (hn _)) hc,n1,n2,hR⟩
theorem sm_bump {u:List Int} {B:Int} {j:Nat} (h:∀ x∈u,0≤x∧x≤B) (hB:B≤2 ^ 60):∀ x∈bump u j,0≤x∧x≤2 ^ 60+1:=by
 intro x hx
 unfold bump at hx
 rcases List.mem_or_eq_of_mem_set hx with z | z
 ·have:=h x z; omega
 ·by_cases hj:j < u.length
  ·have:=h _ (List.getElem_mem (h:=hj))
   rw [List.getD_eq_getElem?_getD,List.getElem?_eq_getElem hj] at z
   simp at z
   omega
  ·rw [List.getD_eq_getElem?_getD,List.getElem?_eq_none (by omega)] at z
   simp at z
   omega
inductive IspStepW (C:Addr) (vs:List V) (H:Hp) (Q:VK) (E:XK):Prop
 | mk (p ra ca af aw:Addr) (b:Bool) (L F W rss:LLI) (cs:List (Option Int)) (r:V) (B:Int) (_:vs=[.ref p,r]) (_:FAt C H p ra ca af aw b L F W) (_:SyAt H ra ca rss cs) (_:(r=.non∨∃ m:Int,r=.int m∧0≤m)) (_:(∀ v∈L,v.length=cs.length∧∀ x∈v,0≤x∧x≤B)) (_:B≤2 ^ 60) (_:(∀ v∈F,v.length=cs.length)) (_:L.length*cs.length+100≤100000) (_:F.length≤100000) (_:W.length≤100000) (_:∀ L' H',StR rss cs b L F r L'→FAt C H' p ra ca af aw true L' (F++L'.filter fun v=>Ans rss v) (W++L')→(∃ dx ah,H' p=some (.ins C dx (ffl ra ca true ah af aw))∧H ah=none)→Off [p,af,aw] H H'→Q (.int L'.length) H'):IspStepW C vs H Q E
def spStepW (C:Addr):Sp:=fun vs H Q E=>IspStepW C vs H Q E
theorem rd_stepw {σ:L2.St} {i j:Nat} {C p ra ca af aw:Addr} {b:Bool} {L F W rss:LLI} {cs:List (Option Int)} {r:V} {B:Int} {H:Hp} {Q:VK} (hi:σ[i]?=some (some (.ref p))) (hj:σ[j]?=some (some r)) (D:FAt C H p ra ca af aw b L F W) (Y:SyAt H ra ca rss cs) (h1:r=.non∨∃ m:Int,r=.int m∧0≤m) (h2:∀ v∈L,v.length=cs.length∧∀ x∈v,0≤x∧x≤B) (h3:B≤2 ^ 60) (h4:∀ v∈F,v.length=cs.length) (h5:L.length*cs.length+100≤100000) (h6:F.length≤100000) (h7:W.length≤100000)
  (k:∀ L' H',StR rss cs b L F r L'→FAt C H' p ra ca af aw true L' (F++L'.filter fun v=>Ans rss v) (W++L')→(∃ dx ah,H' p=some (.ins C dx (ffl ra ca true ah af aw))∧H ah=none)→Off [p,af,aw] H H'→Q (.int L'.length) H'):tMeth C "step_within" (spStepW C) [] E0 (tVar i) (tCons (tVar j) tNil) σ H Q:=by
 obtain ⟨⟨dx,ah,hs,g1,_⟩,_,_,_⟩:=id D
 exact ⟨_,hi,p,dx,_,rfl,g1,ffl_step_within _ _ _ _ _ _,_,hj,p,ra,ca,af,aw,b,L,F,W,rss,cs,r,B,rfl,D,Y,h1,h2,h3,h4,h5,h6,h7,k⟩
theorem sc_Finder_step_within:FnScope ["self", "room"] ["self", "room"] (defScope s_Finder_step_within):=⟨rfl,rfl,rfl,by decide +kernel,rfl,by decide +kernel,by decide +kernel⟩
theorem ok_stepw (FM:MethAt K C "step_within" "Finder.step_within" s_Finder_step_within ["self", "room"]) (U:FiTx K C) (T:Tx mg) (O_next_level:Ok P w K mg base "next_level" 5 ["rows", "caps", "found", "level", "room"] spNext) (O_first_steps:Ok P w K mg base "first_steps" 2 ["caps"] spFirst) (O_is_answer:Ok P w K mg base "is_answer" 3 ["rows", "one"] spIsAns) :
  MethOk P w K mg base C "step_within" 6 ["self", "room"] (spStepW C):=by
 refine FM.fnJ sc_Finder_step_within (fun vs H Q E h=>?_) (fun cdv f A outer s H vs Q E hr h=>?_)
 ·obtain ⟨p,ra,ca,af,aw,b,L,F,W,rss,cs,r,B,rfl,_⟩:=h
  rfl
 ·obtain ⟨p,ra,ca,af,aw,b,L,F,W,rss,cs,r,B,rfl,D,Y,hroom,hL,hB,hF,hbig,hF1,hW1,k⟩:=h
  have hz:(300000:Nat)≤sizeLine:=by rw [sizeLine_eq]; decide
  obtain ⟨⟨dx,ah,hs,h1,h2,h3,h4,h5⟩,⟨fs,f1,f2⟩,⟨ws,w1,w2⟩,ne⟩:=id D
  have npf:p≠af:=ne_of h1 f1 (by intro z; cases z)
  have npw:p≠aw:=ne_of h1 w1 (by intro z; cases z)
  refine ⟨_,(jb_cons (js_if (jt_tru K (j_fld K (jv 0)))
 (jb_one (js_fld K (jv 0) (j_call O_next_level (hr.mono (by omega)) rfl (ja_cons (j_fld K (jv 0)) (ja_cons (j_fld K (jv 0)) (ja_cons (j_fld K (jv 0)) (ja_cons (j_fld K (jv 0)) (ja_cons (jv 1) ja_nil))))))))
 (jb_cons (js_fld K (jv 0) (jc_list K rfl T.b_list (ja_cons (j_call O_first_steps (hr.mono (by omega)) rfl (ja_cons (j_fld K (jv 0)) ja_nil)) ja_nil)))
 (jb_one (js_fld K (jv 0) j_bl))))
 (jb_cons (js_expr (jm_extend K (j_fld K (jv 0)) (ja_cons (j_comp (N:=["one", "self"]) (src:=[none,some 0]) (ji_list K (j_fld K (jv 0))) (by show capOk _ _=true; rfl) (by rfl) (by rfl)
 (fun _ _ _ _ _=>(jg_name (i:=0) (show (["one", "self"]:List Str).Nodup by decide +kernel) rfl (Or.inl rfl))) (fun _ _ _ _ _=>(jf_one (jt_tru K (j_call O_is_answer (hr.mono (by omega)) rfl (ja_cons (j_fld K (jv 1)) (ja_cons (jv 0) ja_nil)))))) (fun _ _ _ _ _=>(jv 0))) ja_nil)))
 (jb_cons (js_expr (jm_extend K (j_fld K (jv 0)) (ja_cons (j_fld K (jv 0)) ja_nil)))
 (jb_one (js_ret (jc_len K rfl T.b_len (ja_cons (j_fld K (jv 0)) ja_nil))))))),?_⟩
  refine seq_via (fun σ H'=>σ=[some (.ref p),some r]∧∃ ah' hs' L',H' p=some (.ins C dx (ffl ra ca true ah' af aw))∧H' ah'=some (.lst hs')∧Its H' hs' L'∧H ah'=none∧StR rss cs b L F r L'∧Off [p] H H'∧∀ v∈L',v.length=cs.length∧Sm v) ?fin fun fin=>?_
  case fin =>
   rintro σ H1 ⟨rfl,ah',hs',L',p1,a1,i1,a0,R,off1,hL'⟩
   have hn2:=Y.n2
   have hlen:L'.length≤100000:=by have:=R.len; omega
   have f1':=off1 _ _ (by simpa using npf.symm) f1
   have w1':=off1 _ _ (by simpa using npw.symm) w1
   have f2':=its_off1 f2 h1 (fun _ z=>by cases z) off1
   have w2':=its_off1 w2 h1 (fun _ z=>by cases z) off1
   have Y1:=sy_off1 Y h1 (fun _ z=>by cases z) off1
   have haf:ah'≠af:=(ne_of_none f1 a0).symm
   have haw:ah'≠aw:=(ne_of_none w1 a0).symm
   have hpa:p≠ah':=ne_of_none h1 a0
   refine ⟨_,rfl,p,C,dx,_,_,rfl,p1,U.cl,U.n5,ffl_found _ _ _ _ _ _,.inl ⟨rfl,_,SqL.of f1'⟩,?_⟩
   refine ⟨_,rfl,p,C,dx,_,_,rfl,p1,U.cl,U.n4,ffl_here _ _ _ _ _ _,ah',rfl,⟨_,SqL.of a1⟩,?_⟩
   refine list_keepC (caps:=[some (.ref p)]) (fun v=>Ans rss v) (by rw [i1.1]; omega) (fun H2 s2=>SqL.of (s2 _ _ a1)) i1 rfl (fun v r' H2 Q2 hr' hv s2 q=>?_) fun H2 p2 zs s2 hp2 hI2=>?_
   ·obtain ⟨⟨us,u1,u2,u3⟩,_,_,_,hR⟩:=Y1.same s2
    refine ⟨_,rfl,p,C,dx,_,_,rfl,s2 _ _ p1,U.cl,U.n1,ffl_rows _ _ _ _ _ _,_,rfl,ra,v,us,rss,r',rfl,u1,u2,hv,u3,fun r hr=>by rw [(hR r hr).1]; omega,(hL' r' hr').2,fun H3 s3=>⟨_,rfl,q H3 s3⟩⟩
   have hfl:(L'.filter fun v=>Ans rss v).length≤L'.length:=List.length_filter_le _ _
   have s3:=s2.upd (o:=.lst zs) hp2
   have s3':=(Same.refl H2).upd (o:=.lst zs) hp2
   have e3:upd H2 p2 (.lst zs) p2=some (.lst zs):=upd_same
   have hI3:=hI2.same s3'
   generalize upd H2 p2 (.lst zs)=H3 at s3 e3 hI3
   have f3:=s3 _ _ f1'
   refine ⟨af,p2,fs,zs,rfl,rfl,f3,e3,by rw [f2.1,hI2.1]; omega,?_⟩
   have p4:upd H3 af (.lst (fs++zs)) p=some (.ins C dx (ffl ra ca true ah' af aw)):=by rw [upd_ne npf]; exact s3 _ _ p1
   have w4:upd H3 af (.lst (fs++zs)) aw=some (.lst ws):=by rw [upd_ne ne.symm]; exact s3 _ _ w1'
   have a4:upd H3 af (.lst (fs++zs)) ah'=some (.lst hs'):=by rw [upd_ne haf]; exact s3 _ _ a1
   refine ⟨_,rfl,p,C,dx,_,_,rfl,p4,U.cl,U.n6,ffl_walked _ _ _ _ _ _,.inl ⟨rfl,_,SqL.of w4⟩,?_⟩
   refine ⟨_,rfl,p,C,dx,_,_,rfl,p4,U.cl,U.n4,ffl_here _ _ _ _ _ _,aw,ah',ws,hs',rfl,rfl,w4,a4,by rw [w2.1,i1.1]; omega,?_⟩
   have p5:upd (upd H3 af (.lst (fs++zs))) aw (.lst (ws++hs')) p=some (.ins C dx (ffl ra ca true ah' af aw)):=by rw [upd_ne npw]; exact p4
   have a5:upd (upd H3 af (.lst (fs++zs))) aw (.lst (ws++hs')) ah'=some (.lst hs'):=by rw [upd_ne haw]; exact a4
   refine ⟨_,rfl,p,C,dx,_,_,rfl,p5,U.cl,U.n4,ffl_here _ _ _ _ _ _,ah',_,rfl,.inl (SqL.of a5),?_⟩
   rw [i1.1]
   have put2:∀ {vs:List V} {rss:LLI},Its H3 vs rss→Its (upd (upd H3 af (.lst (fs++zs))) aw (.lst (ws++hs'))) vs rss:=fun h=>its_upd (its_upd h f3 (fun _ z=>by cases z)) w4 (fun _ z=>by cases z)
   refine k L' _ R ⟨⟨dx,ah',hs',p5,a5,put2 (i1.same s3),haf,haw⟩,⟨fs++zs,by rw [upd_ne ne]; exact upd_same,put2 (its_app (f2'.same s3) hI3)⟩,⟨ws++hs',upd_same,put2 (its_app (w2'.same s3) (i1.same s3))⟩,ne⟩ ⟨dx,ah',p5,a0⟩ fun b o hb e=>?_
   have hb':b≠p∧b≠af∧b≠aw:=by simpa using hb
   rw [upd_ne hb'.2.2,upd_ne hb'.2.1]
   exact s3 _ _ (off1 _ _ (by simpa using hb'.1) e)
  refine ⟨_,rfl,p,C,dx,_,_,rfl,h1,U.cl,U.n3,ffl_begun _ _ _ _ _ _,b,rfl,?_⟩
  obtain ⟨us,u1,u2,u3⟩:=Y.ex
  have hn2:=Y.n2
  cases b with
  | true =>
   refine iteT ?_
   refine ⟨_,rfl,p,C,dx,_,_,rfl,h1,U.cl,U.n1,ffl_rows _ _ _ _ _ _,_,rfl,p,C,dx,_,_,rfl,h1,U.cl,U.n2,ffl_caps _ _ _ _ _ _,_,rfl,p,C,dx,_,_,rfl,h1,U.cl,U.n5,ffl_found _ _ _ _ _ _,_,rfl,p,C,dx,_,_,rfl,h1,U.cl,U.n4,ffl_here _ _ _ _ _ _,_,rfl,?_⟩
   refine ⟨ra,ca,af,ah,r,us,rss,cs,fs,F,hs,L,rfl,⟨u1,u2,Y.hc,f1,f2,h2,h3,u3,Y.n1,Y.n2,Y.hR,hF,fun v hv=>⟨(hL v hv).1,fun x hx=>by have:=(hL v hv).2 x hx; omega⟩,hbig⟩,hroom,fun p9 zs tss H9 s9 hfr h9 hI9 hri hnd hsnd hall hlen hfew=>?_⟩
   have p9e:=s9 _ _ h1
   have hpp:p≠p9:=ne_of_none h1 hfr
   refine ⟨_,rfl,p,C,dx,_,rfl,p9e,U.cl,U.n4,by show 6 < 1000; decide,?_⟩
   rw [put_here]
   refine fin _ _ ⟨rfl,p9,zs,tss,upd_same,by rw [upd_ne hpp.symm]; exact h9,its_upd hI9 p9e (fun _ z=>by cases z),hfr,⟨hri,hnd,(fun z=>by cases z),fun _=>hsnd,fun _=>hall,by omega,hfew⟩,s9.off.set (by simp),fun v hv=>?_⟩
   obtain ⟨u,hu,j,_,rfl,_⟩:=hsnd v hv
   have:=sm_bump (j:=j) (hL u hu).2 hB
   exact ⟨by rw [bump_len]; exact (hL u hu).1,fun x hx=>by have:=this x hx; omega⟩
  | false =>
   refine iteF ?_
   refine ⟨_,rfl,p,C,dx,_,_,rfl,h1,U.cl,U.n2,ffl_caps _ _ _ _ _ _,ca,cs,rfl,Y.hc,Y.n1,Y.n2,fun q zs tss H2 s2 hq hI2 hpm hri=>?_⟩
   refine ⟨q,zs,rfl,.inr (SqT.of hq),fun l hl=>?_⟩
   have p3:=upd_keep (o:=.lst zs) (s2 _ _ h1) hl
   have s3:=s2.upd (o:=.lst zs) hl
   have hI3:=hI2.same ((Same.refl H2).upd (o:=.lst zs) hl)
   have e3:upd H2 l (.lst zs) l=some (.lst zs):=upd_same
   have hfr:=s2.free hl
   generalize upd H2 l (.lst zs)=H3 at p3 s3 hI3 e3
   refine ⟨_,rfl,p,C,dx,_,rfl,p3,U.cl,U.n4,by show 6 < 1000; decide,?_⟩
   rw [put_here]
   refine ⟨_,rfl,p,C,dx,_,rfl,upd_same,U.cl,U.n3,by show 6 < 1000; decide,?_⟩
   rw [upd_upd,put_begun]
   have hpp:p≠l:=ne_of_none h1 hfr
   have hfl:(Firsts cs).length≤cs.length:=Nat.le_trans (List.length_filter_le _ _) (by simp)
   have hpl:=hpm.length_eq
   refine fin _ _ ⟨rfl,l,zs,tss,upd_same,by rw [upd_ne hpp.symm]; exact e3,its_upd hI3 p3 (fun _ z=>by cases z),hfr,⟨hri,hpm.symm.nodup (firsts_nd cs),fun _ v=>hpm.mem_iff,(fun z=>by cases z),(fun z=>by cases z),by omega,fun m e=>?_⟩,s3.off.set (by simp),fun v hv=>?_⟩
   ·rcases hroom with z | ⟨m',z,hm'⟩
    ·rw [z] at e; cases e
    ·rw [z] at e; cases e; omega
   ·obtain ⟨j,_,rfl⟩:=List.mem_map.mp (List.mem_filter.mp (hpm.mem_iff.mp hv)).1
    refine ⟨unitv_len _ _,fun x hx=>?_⟩
    unfold unitv at hx
    obtain ⟨i,_,rfl⟩:=List.mem_map.mp hx
    split <;> omega
inductive IspEnded (C:Addr) (vs:List V) (H:Hp) (Q:VK) (E:XK):Prop
 | mk (p ra ca af aw:Addr) (b:Bool) (L F W:LLI) (_:vs=[.ref p]) (_:FAt C H p ra ca af aw b L F W) (_:Q (.bl (b && decide (L=[]))) H):IspEnded C vs H Q E
def spEnded (C:Addr):Sp:=fun vs H Q E=>IspEnded C vs H Q E
theorem rd_ended {σ:L2.St} {i:Nat} {C p ra ca af aw:Addr} {b:Bool} {L F W:LLI} {H:Hp} {Q:VK} (hi:σ[i]?=some (some (.ref p))) (D:FAt C H p ra ca af aw b L F W) (k:Q (.bl (b && decide (L=[]))) H):tMeth C "ended" (spEnded C) [] E0 (tVar i) tNil σ H Q:=by
 obtain ⟨⟨dx,ah,hs,g1,_⟩,_,_,_⟩:=id D
 exact ⟨_,hi,p,dx,_,rfl,g1,ffl_ended _ _ _ _ _ _,p,ra,ca,af,aw,b,L,F,W,rfl,D,k⟩
theorem sc_Finder_ended:FnScope ["self"] ["self"] (defScope s_Finder_ended):=⟨rfl,rfl,rfl,by decide +kernel,rfl,by decide +kernel,by decide +kernel⟩
theorem ok_ended (FM:MethAt K C "ended" "Finder.ended" s_Finder_ended ["self"]) (U:FiTx K C) (T:Tx mg):MethOk P w K mg base C "ended" 1 ["self"] (spEnded C):=by
 refine FM.fnJ sc_Finder_ended (fun vs H Q E h=>?_) (fun cdv f A outer s H vs Q E hr h=>?_)
 ·obtain ⟨p,ra,ca,af,aw,b,L,F,W,rfl,_⟩:=h
  rfl
 ·obtain ⟨p,ra,ca,af,aw,b,L,F,W,rfl,D,k⟩:=h
  obtain ⟨⟨dx,ah,hs,h1,h2,h3,h4,h5⟩,⟨fs,f1,f2⟩,⟨ws,w1,w2⟩,ne⟩:=id D
  refine ⟨_,(jb_one (js_ret (j_and (j_fld K (jv 0)) (j_one (jv_eq (jc_len K rfl T.b_len (ja_cons (j_fld K (jv 0)) ja_nil)) j_int))))),?_⟩
  refine ⟨_,rfl,p,C,dx,_,_,rfl,h1,U.cl,U.n3,ffl_begun _ _ _ _ _ _,?_⟩
  refine ⟨b,rfl,?_⟩
  cases b with
  | false=>exact iteF k
  | true =>
   refine iteT ⟨_,rfl,p,C,dx,_,_,rfl,h1,U.cl,U.n4,ffl_here _ _ _ _ _ _,ah,_,rfl,.inl (SqL.of h2),rfl,?_⟩
   have e:decide (V.int (hs.length:Int)=V.int 0)=decide (L=[]):=by
    rw [h3.1]
    cases L with
    | nil=>simp
    | cons x L=>simp; omega
   rw [e]
   exact k
inductive IspTold (C:Addr) (vs:List V) (H:Hp) (Q:VK) (E:XK):Prop
 | mk (p ra ca af aw:Addr) (b:Bool) (L F W:LLI) (_:vs=[.ref p]) (_:FAt C H p ra ca af aw b L F W) (_:(∀ v∈F,0 < v.length)) (_:∀ q zs tss H',Same H H'→H' q=some (.tup zs)→Its H' zs tss→tss.Perm F→Rises tss→Q (.ref q) H'):IspTold C vs H Q E
def spTold (C:Addr):Sp:=fun vs H Q E=>IspTold C vs H Q E
theorem rd_told {σ:L2.St} {i:Nat} {C p ra ca af aw:Addr} {b:Bool} {L F W:LLI} {H:Hp} {Q:VK} (hi:σ[i]?=some (some (.ref p))) (D:FAt C H p ra ca af aw b L F W) (h:∀ v∈F,0 < v.length) (k:∀ q zs tss H',Same H H'→H' q=some (.tup zs)→Its H' zs tss→tss.Perm F→Rises tss→Q (.ref q) H'):tMeth C "told" (spTold C) [] E0 (tVar i) tNil σ H Q:=by
 obtain ⟨⟨dx,ah,hs,g1,_⟩,_,_,_⟩:=id D
 exact ⟨_,hi,p,dx,_,rfl,g1,ffl_told _ _ _ _ _ _,p,ra,ca,af,aw,b,L,F,W,rfl,D,h,k⟩
theorem sc_Finder_told:FnScope ["self"] ["self"] (defScope s_Finder_told):=⟨rfl,rfl,rfl,by decide +kernel,rfl,by decide +kernel,by decide +kernel⟩
theorem ok_told (FM:MethAt K C "told" "Finder.told" s_Finder_told ["self"]) (U:FiTx K C) (T:Tx mg):MethOk P w K mg base C "told" 1 ["self"] (spTold C):=by
 refine FM.fnJ sc_Finder_told (fun vs H Q E h=>?_) (fun cdv f A outer s H vs Q E hr h=>?_)
 ·obtain ⟨p,ra,ca,af,aw,b,L,F,W,rfl,_⟩:=h
  rfl
 ·obtain ⟨p,ra,ca,af,aw,b,L,F,W,rfl,D,hF,k⟩:=h
  obtain ⟨⟨dx,ah,hs,h1,h2,h3,h4,h5⟩,⟨fs,f1,f2⟩,⟨ws,w1,w2⟩,ne⟩:=id D
  refine ⟨_,(jb_one (js_ret (jc_tuple K rfl T.b_tuple (ja_cons (jc_sortA K rfl T.b_sorted (ja_cons (j_fld K (jv 0)) ja_nil)) ja_nil)))),?_⟩
  refine ⟨_,rfl,p,C,dx,_,_,rfl,h1,U.cl,U.n5,ffl_found _ _ _ _ _ _,af,fs,F,rfl,.inl (SqL.of f1),f2,hF,fun l zs tss hl hI hpm hri _=>?_⟩
  refine ⟨l,_,rfl,.inl ⟨SqL.of upd_same,fun q hq=>?_⟩⟩
  have s2:=((Same.refl H).upd (o:=.lst zs) hl).upd (o:=.tup zs) hq
  exact k q zs tss _ s2 upd_same (hI.same s2) hpm hri
inductive IspPaper (C:Addr) (vs:List V) (H:Hp) (Q:VK) (E:XK):Prop
 | mk (p ra ca af aw:Addr) (b:Bool) (L F W:LLI) (_:vs=[.ref p]) (_:FAt C H p ra ca af aw b L F W) (_:∀ q zs H',Same H H'→H' q=some (.tup zs)→Its H' zs W→Q (.ref q) H'):IspPaper C vs H Q E
def spPaper (C:Addr):Sp:=fun vs H Q E=>IspPaper C vs H Q E
theorem rd_paper {σ:L2.St} {i:Nat} {C p ra ca af aw:Addr} {b:Bool} {L F W:LLI} {H:Hp} {Q:VK} (hi:σ[i]?=some (some (.ref p))) (D:FAt C H p ra ca af aw b L F W) (k:∀ q zs H',Same H H'→H' q=some (.tup zs)→Its H' zs W→Q (.ref q) H'):tMeth C "paper" (spPaper C) [] E0 (tVar i) tNil σ H Q:=by
 obtain ⟨⟨dx,ah,hs,g1,_⟩,_,_,_⟩:=id D
 exact ⟨_,hi,p,dx,_,rfl,g1,ffl_paper _ _ _ _ _ _,p,ra,ca,af,aw,b,L,F,W,rfl,D,k⟩
theorem sc_Finder_paper:FnScope ["self"] ["self"] (defScope s_Finder_paper):=⟨rfl,rfl,rfl,by decide +kernel,rfl,by decide +kernel,by decide +kernel⟩
theorem ok_paper (FM:MethAt K C "paper" "Finder.paper" s_Finder_paper ["self"]) (U:FiTx K C) (T:Tx mg):MethOk P w K mg base C "paper" 1 ["self"] (spPaper C):=by
 refine FM.fnJ sc_Finder_paper (fun vs H Q E h=>?_) (fun cdv f A outer s H vs Q E hr h=>?_)
 ·obtain ⟨p,ra,ca,af,aw,b,L,F,W,rfl,_⟩:=h
  rfl
 ·obtain ⟨p,ra,ca,af,aw,b,L,F,W,rfl,D,k⟩:=h
  obtain ⟨⟨dx,ah,hs,h1,h2,h3,h4,h5⟩,⟨fs,f1,f2⟩,⟨ws,w1,w2⟩,ne⟩:=id D
  refine ⟨_,(jb_one (js_ret (jc_tuple K rfl T.b_tuple (ja_cons (j_fld K (jv 0)) ja_nil)))),?_⟩
  refine ⟨_,rfl,p,C,dx,_,_,rfl,h1,U.cl,U.n6,ffl_walked _ _ _ _ _ _,aw,_,rfl,.inl ⟨SqL.of w1,fun q hq=>?_⟩⟩
  have s2:=(Same.refl H).upd (o:=.tup ws) hq
  exact k q ws _ s2 upd_same (w2.same s2)
end
inductive Wk (rss:LLI) (cs:List (Option Int)):LLI→LLI→LLI→Nat→Prop
 | one {L:LLI} (ri:Rises L) (nd:L.Nodup) (h:∀ v,v∈L↔v∈Firsts cs):Wk rss cs (L.filter fun v=>Ans rss v) L L 1
 | more {F W L L':LLI} {k:Nat} (h:Wk rss cs F W L k) (ne:L≠[]) (ri:Rises L') (nd:L'.Nodup) (hm:∀ v,v∈L'↔∃ u∈L,IsNx rss cs F u v):Wk rss cs (F++L'.filter fun v=>Ans rss v) (W++L') L' (k+1)
def Over (rss:LLI) (cs:List (Option Int)) (most:Int):Prop:=∃ F W L k,Wk rss cs F W L k∧(most < W.length∨(L≠[]∧∃ L':LLI,L'.Nodup∧(∀ v∈L',∃ u∈L,IsNx rss cs F u v)∧most < W.length+L'.length))
theorem nn_of {v:List Int} (h:∀ x∈v,0≤x):∀ x∈v,x≤v.sum:=by
 induction v with
 | nil=>intro x hx; cases hx
 | cons y v ih =>
  intro x hx
  have h1:=h y List.mem_cons_self
  have h2:=sum_nn v fun z hz=>h z (List.mem_cons_of_mem _ hz)
  rw [List.sum_cons]
  rcases List.mem_cons.mp hx with rfl | hx
  ·omega
  ·have:=ih (fun z hz=>h z (List.mem_cons_of_mem _ hz)) x hx
   omega
theorem bump_nn {u:List Int} {j:Nat} (h:∀ x∈u,0≤x):∀ x∈bump u j,0≤x:=by
 intro x hx
 unfold bump at hx
 rcases List.mem_or_eq_of_mem_set hx with z | z
 ·exact h x z
 ·by_cases hj:j < u.length
  ·have:=h _ (List.getElem_mem (h:=hj))
   rw [List.getD_eq_getElem?_getD,List.getElem?_eq_getElem hj] at z
   simp at z
   omega
  ·rw [List.getD_eq_getElem?_getD,List.getElem?_eq_none (by omega)] at z
   simp at z
   omega
theorem unitv_nn (n j:Nat):∀ x∈unitv n j,0≤x:=by
 intro x hx
 unfold unitv at hx
 obtain ⟨i,_,rfl⟩:=List.mem_map.mp hx
 split <;> omega
theorem unitv_bump (n j:Nat) (hj:j < n):unitv n j=bump (List.replicate n 0) j:=by
 refine List.ext_getElem (by rw [unitv_len,bump_len,List.length_replicate]) fun i h1 h2=>?_
 rw [unitv_len] at h1
 have e1:=unitv_get n j i h1
 have e2:=bump_at (List.replicate n 0) j i (by simpa using hj)
 rw [List.getD_eq_getElem?_getD,List.getElem?_eq_getElem (by rw [unitv_len]; exact h1)] at e1
 rw [List.getD_eq_getElem?_getD,List.getElem?_eq_getElem h2] at e2
 simp only [Option.getD_some] at e1 e2
 rw [e1,e2]
 simp only [List.getD_eq_getElem?_getD,List.getElem?_replicate,hj,h1,if_true]
 by_cases e:i=j <;> simp [e]
theorem rep_sum0 (n:Nat):(List.replicate n (0:Int)).sum=0:=by
 induction n with
 | zero=>rfl
 | succ n ih=>rw [List.replicate_succ,List.sum_cons,ih]; rfl
theorem unitv_sum (n j:Nat) (hj:j < n):(unitv n j).sum=1:=by
 rw [unitv_bump n j hj,bump_sum _ _ (by simpa using hj),rep_sum0]
 rfl
theorem stp_lt {rss:LLI} {cs:List (Option Int)} {u:List Int} {j:Nat} (h:j∈StP rss cs u):j < u.length∧Pull rss u j < 0∧capLt (cs.getD j none) (u.getD j 0)=true:=by
 unfold StP at h
 rw [List.mem_filter,List.mem_filter,List.mem_range,decide_eq_true_eq] at h
 exact ⟨h.1.1,h.1.2,h.2⟩
structure LvF (n k:Nat) (v:List Int):Prop where
 len:v.length=n
 nn:∀ x∈v,0≤x
 sum:v.sum=k
theorem firsts_lv {cs:List (Option Int)} {v:List Int} (h:v∈Firsts cs):LvF cs.length 1 v:=by
 obtain ⟨j,hj,rfl⟩:=List.mem_map.mp (List.mem_filter.mp h).1
 exact ⟨unitv_len _ _,unitv_nn _ _,unitv_sum _ _ (List.mem_range.mp hj)⟩
theorem nx_lv {rss:LLI} {cs:List (Option Int)} {F:LLI} {u v:List Int} {n k:Nat} (hu:LvF n k u) (h:IsNx rss cs F u v):LvF n (k+1) v:=by
 obtain ⟨j,hj,rfl,_⟩:=h
 have:=(stp_lt hj).1
 exact ⟨by rw [bump_len]; exact hu.len,bump_nn hu.nn,by rw [bump_sum _ _ this,hu.sum]; omega⟩
theorem Wk.lv {rss:LLI} {cs:List (Option Int)} {F W L:LLI} {k:Nat} (h:Wk rss cs F W L k):(∀ v∈L,LvF cs.length k v)∧(∀ v∈W,∃ i,1≤i∧i≤k∧LvF cs.length i v)∧(∀ v∈F,v∈W∧Ans rss v=true)∧F.length≤W.length∧L.length≤W.length∧1≤k∧k≤W.length+1∧(L≠[]→k≤W.length):=by
 induction h with
 | @one L ri nd h =>
  refine ⟨fun v hv=>firsts_lv ((h v).mp hv),fun v hv=>⟨1,by omega,by omega,firsts_lv ((h v).mp hv)⟩,fun v hv=>List.mem_filter.mp hv,List.length_filter_le _ _,Nat.le_refl _,by omega,by omega,fun ne=>?_⟩
  cases L with
  | nil=>exact absurd rfl ne
  | cons x L=>simp
 | @more F W L L' k h ne ri nd hm ih =>
  obtain ⟨i1,i2,i3,i4,i5,i6,i7,i8⟩:=ih
  have hL':∀ v∈L',LvF cs.length (k+1) v:=fun v hv=>by
   obtain ⟨u,hu,hx⟩:=(hm v).mp hv
   exact nx_lv (i1 u hu) hx
  have:=List.length_filter_le (fun v=>Ans rss v) L'
  have k8:=i8 ne
  refine ⟨hL',fun v hv=>?_,fun v hv=>?_,by rw [List.length_append,List.length_append]; omega,by rw [List.length_append]; omega,by omega,by rw [List.length_append]; omega,fun ne'=>?_⟩
  ·rcases List.mem_append.mp hv with z | z
   ·obtain ⟨i,q1,q2,q3⟩:=i2 v z
    exact ⟨i,q1,by omega,q3⟩
   ·exact ⟨k+1,by omega,by omega,hL' v z⟩
  ·rcases List.mem_append.mp hv with z | z
   ·exact ⟨List.mem_append_left _ (i3 v z).1,(i3 v z).2⟩
   ·exact ⟨List.mem_append_right _ (List.mem_filter.mp z).1,(List.mem_filter.mp z).2⟩
  ·rw [List.length_append]
   have:0 < L'.length:=List.length_pos_iff.mpr ne'
   omega
section
variable {P:Program} {w:World} {K:PySem.W.Frag} {mg:Str→Option Value} {base:Heap} {C:Addr}
inductive IspLeast (D:Addr) (vs:List V) (H:Hp) (Q:VK) (E:XK):Prop
 | mk (ra ca:Addr) (rss:LLI) (cs:List (Option Int)) (most:Nat) (mi:Int) (_:vs=[.ref ra,.ref ca,.int mi]) (_:mi=most) (_:SyAt H ra ca rss cs) (_:(most+1)*cs.length+200≤100000) (_:(∀ q t pp zs tss ws F W k H',Same H H'→H' q=some (.tup [.ref t,.ref pp])→H' t=some (.tup zs)→Its H' zs tss→tss.Perm F→Rises tss→H' pp=some (.tup ws)→Its H' ws W→Wk rss cs F W [] k→W.length≤most→Q (.ref q) H')) (_:(∀ H',Same H H'→Over rss cs most→E (.ref D) none H')):IspLeast D vs H Q E
def spLeast (D:Addr):Sp:=fun vs H Q E=>IspLeast D vs H Q E
theorem sc_least:FnScope ["rows", "caps", "most", "finder", "room"] ["rows", "caps", "most"] (defScope s_least):=⟨rfl,rfl,rfl,by decide +kernel,rfl,by decide +kernel,by decide +kernel⟩
theorem ok_least {D_TooMany:Addr} (F':FunAt K mg "least" s_least ["rows", "caps", "most"]) (T:Tx mg) (U:FiTx K C) (CL_Finder:Cls K C) (O_Finder:MakeOk P w K mg base "Finder" C 1 ["self", "rows", "caps"] (spFInit C)) (O_Finder_step_within:MethOk P w K mg base C "step_within" 6 ["self", "room"] (spStepW C)) (O_Finder_ended:MethOk P w K mg base C "ended" 1 ["self"] (spEnded C)) (O_Finder_told:MethOk P w K mg base C "told" 1 ["self"] (spTold C)) (O_Finder_paper:MethOk P w K mg base C "paper" 1 ["self"] (spPaper C))
  (OC_TooMany:OwnCls "TooMany" D_TooMany [.type "ValueError",.type "Exception",.type "BaseException",.type "object"] "ValueError.__new__" mg base):OkE P w K mg base "least" 7 ["rows", "caps", "most"] (spLeast D_TooMany):=by
 refine F'.okE sc_least (fun vs H Q E h=>?_) (fun cdv f A outer s H vs Q E hr h=>?_)
 ·obtain ⟨ra,ca,rss,cs,most,mi,rfl,_⟩:=h
  rfl
 ·obtain ⟨ra,ca,rss,cs,most,_,rfl,rfl,Y,hbig,kq,ke⟩:=h
  refine ⟨_,(jb_cons (js_set (i:=3) sc_least.nd rfl (Or.inl rfl) (j_make O_Finder (hr.mono (by omega)) rfl (ja_cons (jv 0) (ja_cons (jv 1) ja_nil))))
 (jb_cons (js_set (i:=4) sc_least.nd rfl (Or.inl rfl) (jv 2))
 (jb_cons (js_while (jt_not (jt_tru K (j_meth0 O_Finder_ended CL_Finder (hr.mono (by omega)) (jv 3))))
 (jb_cons (js_set (i:=4) sc_least.nd rfl (Or.inl rfl) (j_sub (jv 4) (j_meth O_Finder_step_within CL_Finder (hr.mono (by omega)) (jv 3) (ja_cons (jv 4) ja_nil))))
 (jb_one (js_if (jt_lt (jv 4) j_int)
 (jb_one (js_raise OC_TooMany PySem.F.excBase_ValueError rfl PySem.F.excBase_ValueError rfl (ja_cons j_str ja_nil)))
 jb_nil))) (hp:=PassesOwn.leaving))
 (jb_one (js_ret (j_tup (ja_cons (j_meth0 O_Finder_told CL_Finder (hr.mono (by omega)) (jv 3)) (ja_cons (j_meth0 O_Finder_paper CL_Finder (hr.mono (by omega)) (jv 3)) ja_nil)))))))),?_⟩
  refine ⟨_,rfl,_,rfl,fun x dx hx hdx hne=>?_⟩
  have hx':upd H dx (.own x) x=none:=by rw [upd_ne hne.symm]; exact hx
  have s0:Same H (upd (upd H dx (.own x)) x (.ins C dx [])):=((Same.refl H).upd hdx).upd hx'
  refine ⟨x,dx,ra,ca,rfl,upd_same,fun af aw H1 haf haw D1 _ kp=>⟨rfl,?_⟩⟩
  have haf':H af=none:=s0.free haf
  have haw':H aw=none:=s0.free haw
  have s1:Same H H1:=fun b o e=>kp b o (s0 b o e) (ne_of_none e hx)
  dsimp only [gName]
  refine ⟨_,rfl,?_⟩
  dsimp only [gName]
  have hz:(300000:Nat)≤sizeLine:=by rw [sizeLine_eq]; decide
  refine seq_via (fun σ H'=>σ=[some (.ref ra),some (.ref ca),some (.int most),some (.ref x),σ.getD 4 none]∧Same H H'∧∃ F W k,FAt C H' x ra ca af aw true [] F W∧Wk rss cs F W [] k∧W.length≤most) ?fin fun fin=>?_
  case fin =>
   rintro σ H2 ⟨hσ,s2,F,W,k,D2,hW,hmost⟩
   obtain ⟨⟨dx2,ah,hs,h1,h2,h3,h4,h5⟩,_,_,_⟩:=id D2
   have hlv:=hW.lv
   rw [hσ]
   refine rd_told rfl D2 (fun v hv=>?_) fun q1 zs tss H3 s3 hq1 hI1 hpm hri=>?_
   ·obtain ⟨i,_,_,lv⟩:=hlv.2.1 v (hlv.2.2.1 v hv).1
    rw [lv.len]
    exact Y.n1
   have D3:=D2.same s3
   obtain ⟨⟨dx3,ah3,hs3,g1,_⟩,_,_,_⟩:=id D3
   refine rd_paper rfl D3 fun q2 ws H4 s4 hq2 hI2=>?_
   refine ⟨by show 2≤sizeLine; omega,fun q hq=>?_⟩
   have s5:=(Same.refl H4).upd (o:=.tup [.ref q1,.ref q2]) hq
   exact kq q q1 q2 zs tss ws F W k _ (((s2.trans s3).trans s4).trans s5) upd_same (s5 _ _ (s4 _ _ hq1)) ((hI1.same s4).same s5) hpm hri (s5 _ _ hq2) (hI2.same s5) hW hmost
  refine ⟨fun m σ H'=>∃ (b:Bool) (L F W:LLI) (room:Int),σ=[some (.ref ra),some (.ref ca),some (.int most),some (.ref x),some (.int room)]∧Same H H'∧FAt C H' x ra ca af aw b L F W∧0≤room∧m=room.toNat+(if b=true∧L=[] then 0 else 1)∧((b=false∧L=[]∧F=[]∧W=[]∧room=most)∨(b=true∧∃ k,Wk rss cs F W L k∧room=most - W.length)),
   ⟨_,false,[],[],[],_,rfl,s1,D1,by omega,rfl,.inl ⟨rfl,rfl,rfl,rfl,rfl⟩⟩,?_⟩
  rintro m σ H2 ⟨b,L,F,W,room,rfl,s2,D2,r0,rfl,hst⟩
  obtain ⟨⟨dx2,ah,hs,h1,h2,h3,h4,h5⟩,_,_,_⟩:=id D2
  refine rd_ended rfl D2 ⟨_,rfl,?_⟩
  have hn1:=Y.n1
  have hm1:most+1≤(most+1)*cs.length:=Nat.le_mul_of_pos_right _ hn1
  by_cases he:b=true∧L=[]
  ·obtain ⟨rfl,rfl⟩:=he
   refine iteF ?_
   rcases hst with ⟨z,_⟩ | ⟨_,k,hW,hroom⟩
   ·cases z
   ·exact fin _ _ ⟨rfl,s2,F,W,k,D2,hW,by omega⟩
  ·have hb:(b && decide (L=[]))=false:=by
    cases b with
    | false=>rfl
    | true =>
     have:L≠[]:=fun z=>he ⟨rfl,z⟩
     simpa using this
   rw [hb,if_neg he]
   refine iteT ⟨fun σ' H'=>∃ (L' F' W':LLI) (k:Nat) (room':Int),σ'=[some (.ref ra),some (.ref ca),some (.int most),some (.ref x),some (.int room')]∧Same H H'∧FAt C H' x ra ca af aw true L' F' W'∧0≤room'∧Wk rss cs F' W' L' k∧room'=most - W'.length∧room'.toNat+(if L'=[] then 0 else 1) < room.toNat+1,fun σ' H' ⟨L',F',W',k,room',e1,e2,e3,e4,e5,e6,e7⟩=>⟨_,e7,true,L',F',W',room',e1,e2,e3,e4,by simp,.inr ⟨rfl,k,e5,e6⟩⟩,?_⟩
   obtain ⟨B,hB,hL,hF,hWl,hLl,hFl⟩:∃ B:Int,B≤2 ^ 60∧(∀ v∈L,v.length=cs.length∧∀ y∈v,0≤y∧y≤B)∧(∀ v∈F,v.length=cs.length)∧W.length≤most∧L.length≤most∧F.length≤most:=by
    rcases hst with ⟨rfl,rfl,rfl,rfl,_⟩ | ⟨rfl,k,hW,hroom⟩
    ·exact ⟨0,by omega,(fun _ z=>nomatch z),(fun _ z=>nomatch z),by simp,by simp,by simp⟩
    ·obtain ⟨i1,i2,i3,i4,i5,i6,i7,i8⟩:=hW.lv
     refine ⟨k,by omega,fun v hv=>⟨(i1 v hv).len,fun y hy=>⟨(i1 v hv).nn y hy,?_⟩⟩,fun v hv=>?_,by omega,by omega,by omega⟩
     ·have:=nn_of (i1 v hv).nn y hy
      rw [(i1 v hv).sum] at this
      exact this
     ·obtain ⟨i,_,_,lv⟩:=i2 v (i3 v hv).1
      exact lv.len
   have hLb:L.length*cs.length≤most*cs.length:=Nat.mul_le_mul_right _ hLl
   have hmm:(most+1)*cs.length=most*cs.length+cs.length:=by rw [Nat.add_mul,Nat.one_mul]
   refine ⟨_,rfl,rd_stepw rfl rfl D2 (Y.same s2) (.inr ⟨room,rfl,r0⟩) hL hB hF (by omega) (by omega) (by omega) fun L' H3 R D3 _ off3=>?_⟩
   refine ⟨_,_,rfl,rfl,?_⟩
   dsimp only [gName]
   have s3:Same H H3:=fun c o e=>off3 c o (by simpa using ⟨ne_of_none e hx,ne_of_none e haf',ne_of_none e haw'⟩) (s2 c o e)
   have key:(∃ k,Wk rss cs (F++L'.filter fun v=>Ans rss v) (W++L') L' k∧room=most - W.length)∨(room < L'.length∧Over rss cs most):=by
    rcases hst with ⟨rfl,rfl,rfl,rfl,hroom⟩ | ⟨rfl,k,hW,hroom⟩
    ·exact .inl ⟨1,by simpa using Wk.one R.ri R.nd (R.fst rfl),by simpa using hroom⟩
    ·have hne:L≠[]:=fun z=>he ⟨rfl,z⟩
     rcases R.all rfl with ha | ⟨m',e',hm'⟩
     ·exact .inl ⟨k+1,.more hW hne R.ri R.nd fun v=>⟨R.snd rfl v,fun ⟨u,hu,hv⟩=>ha u hu v hv⟩,hroom⟩
     ·cases e'
      exact .inr ⟨hm',F,W,L,k,hW,.inr ⟨hne,L',R.nd,R.snd rfl,by omega⟩⟩
   refine ⟨_,rfl,_,_,rfl,rfl,_,rfl,ite2 (fun e=>?_) (fun e=>?_)⟩
   ·have e':room - (L'.length:Int) < 0:=of_decide_eq_true e
    refine ⟨by rw [sizeLine_eq]; decide,ke _ s3 ?_⟩
    rcases key with ⟨k,hW,hroom⟩ | ⟨_,ho⟩
    ·exact ⟨_,_,_,k,hW,.inl (by rw [List.length_append]; omega)⟩
    ·exact ho
   ·have e':¬ room - (L'.length:Int) < 0:=fun z=>e (decide_eq_true z)
    rcases key with ⟨k,hW,hroom⟩ | ⟨hlt,_⟩
    ·refine ⟨L',_,_,k,_,rfl,s3,D3,by omega,hW,by rw [List.length_append]; omega,?_⟩
     cases L' with
     | nil=>simp
     | cons y L'=>simp only [List.length_cons] at e' ⊢; rw [if_neg (by simp)]; omega
    ·exact absurd hlt (by omega)
inductive IspLeastN (vs:List V) (H:Hp) (Q:VK) (E:XK):Prop
 | mk (ra ca:Addr) (rss:LLI) (cs:List (Option Int)) (most:Nat) (mi:Int) (_:vs=[.ref ra,.ref ca,.int mi]) (_:mi=most) (_:SyAt H ra ca rss cs) (_:(most+1)*cs.length+200≤100000) (_:(∀ q t pp zs tss ws F W k H',Same H H'→H' q=some (.tup [.ref t,.ref pp])→H' t=some (.tup zs)→Its H' zs tss→tss.Perm F→Rises tss→H' pp=some (.tup ws)→Its H' ws W→Wk rss cs F W [] k→W.length≤most→Q (.ref q) H')) (_:¬ Over rss cs most):IspLeastN  vs H Q E
def spLeastN:Sp:=fun vs H Q E=>IspLeastN  vs H Q E
theorem ok_leastN (F':FunAt K mg "least" s_least ["rows", "caps", "most"]) (T:Tx mg) (U:FiTx K C) (CL_Finder:Cls K C) (O_Finder:MakeOk P w K mg base "Finder" C 1 ["self", "rows", "caps"] (spFInit C)) (O_Finder_step_within:MethOk P w K mg base C "step_within" 6 ["self", "room"] (spStepW C)) (O_Finder_ended:MethOk P w K mg base C "ended" 1 ["self"] (spEnded C)) (O_Finder_told:MethOk P w K mg base C "told" 1 ["self"] (spTold C)) (O_Finder_paper:MethOk P w K mg base C "paper" 1 ["self"] (spPaper C)):Ok P w K mg base "least" 7 ["rows", "caps", "most"] spLeastN:=by
 refine F'.okJ sc_least (fun vs H Q E h=>?_) (fun cdv f A outer s H vs Q E hr h=>?_)
 ·obtain ⟨ra,ca,rss,cs,most,mi,rfl,_⟩:=h
  rfl
 ·obtain ⟨ra,ca,rss,cs,most,_,rfl,rfl,Y,hbig,kq,ke⟩:=h
  refine ⟨_,(jb_cons (js_set (i:=3) sc_least.nd rfl (Or.inl rfl) (j_make O_Finder (hr.mono (by omega)) rfl (ja_cons (jv 0) (ja_cons (jv 1) ja_nil))))
 (jb_cons (js_set (i:=4) sc_least.nd rfl (Or.inl rfl) (jv 2))
 (jb_cons (js_while (jt_not (jt_tru K (j_meth0 O_Finder_ended CL_Finder (hr.mono (by omega)) (jv 3))))
 (jb_cons (js_set (i:=4) sc_least.nd rfl (Or.inl rfl) (j_sub (jv 4) (j_meth O_Finder_step_within CL_Finder (hr.mono (by omega)) (jv 3) (ja_cons (jv 4) ja_nil))))
 (jb_one (js_if (jt_lt (jv 4) j_int)
 (jb_one js_never)
 jb_nil))))
 (jb_one (js_ret (j_tup (ja_cons (j_meth0 O_Finder_told CL_Finder (hr.mono (by omega)) (jv 3)) (ja_cons (j_meth0 O_Finder_paper CL_Finder (hr.mono (by omega)) (jv 3)) ja_nil)))))))),?_⟩
  refine ⟨_,rfl,_,rfl,fun x dx hx hdx hne=>?_⟩
  have hx':upd H dx (.own x) x=none:=by rw [upd_ne hne.symm]; exact hx
  have s0:Same H (upd (upd H dx (.own x)) x (.ins C dx [])):=((Same.refl H).upd hdx).upd hx'
  refine ⟨x,dx,ra,ca,rfl,upd_same,fun af aw H1 haf haw D1 _ kp=>⟨rfl,?_⟩⟩
  have haf':H af=none:=s0.free haf
  have haw':H aw=none:=s0.free haw
  have s1:Same H H1:=fun b o e=>kp b o (s0 b o e) (ne_of_none e hx)
  dsimp only [gName]
  refine ⟨_,rfl,?_⟩
  dsimp only [gName]
  have hz:(300000:Nat)≤sizeLine:=by rw [sizeLine_eq]; decide
  refine seq_via (fun σ H'=>σ=[some (.ref ra),some (.ref ca),some (.int most),some (.ref x),σ.getD 4 none]∧Same H H'∧∃ F W k,FAt C H' x ra ca af aw true [] F W∧Wk rss cs F W [] k∧W.length≤most) ?fin fun fin=>?_
  case fin =>
   rintro σ H2 ⟨hσ,s2,F,W,k,D2,hW,hmost⟩
   obtain ⟨⟨dx2,ah,hs,h1,h2,h3,h4,h5⟩,_,_,_⟩:=id D2
   have hlv:=hW.lv
   rw [hσ]
   refine rd_told rfl D2 (fun v hv=>?_) fun q1 zs tss H3 s3 hq1 hI1 hpm hri=>?_
   ·obtain ⟨i,_,_,lv⟩:=hlv.2.1 v (hlv.2.2.1 v hv).1
    rw [lv.len]
    exact Y.n1
   have D3:=D2.same s3
   obtain ⟨⟨dx3,ah3,hs3,g1,_⟩,_,_,_⟩:=id D3
   refine rd_paper rfl D3 fun q2 ws H4 s4 hq2 hI2=>?_
   refine ⟨by show 2≤sizeLine; omega,fun q hq=>?_⟩
   have s5:=(Same.refl H4).upd (o:=.tup [.ref q1,.ref q2]) hq
   exact kq q q1 q2 zs tss ws F W k _ (((s2.trans s3).trans s4).trans s5) upd_same (s5 _ _ (s4 _ _ hq1)) ((hI1.same s4).same s5) hpm hri (s5 _ _ hq2) (hI2.same s5) hW hmost
  refine ⟨fun m σ H'=>∃ (b:Bool) (L F W:LLI) (room:Int),σ=[some (.ref ra),some (.ref ca),some (.int most),some (.ref x),some (.int room)]∧Same H H'∧FAt C H' x ra ca af aw b L F W∧0≤room∧m=room.toNat+(if b=true∧L=[] then 0 else 1)∧((b=false∧L=[]∧F=[]∧W=[]∧room=most)∨(b=true∧∃ k,Wk rss cs F W L k∧room=most - W.length)),
   ⟨_,false,[],[],[],_,rfl,s1,D1,by omega,rfl,.inl ⟨rfl,rfl,rfl,rfl,rfl⟩⟩,?_⟩
  rintro m σ H2 ⟨b,L,F,W,room,rfl,s2,D2,r0,rfl,hst⟩
  obtain ⟨⟨dx2,ah,hs,h1,h2,h3,h4,h5⟩,_,_,_⟩:=id D2
  refine rd_ended rfl D2 ⟨_,rfl,?_⟩
  have hn1:=Y.n1
  have hm1:most+1≤(most+1)*cs.length:=Nat.le_mul_of_pos_right _ hn1
  by_cases he:b=true∧L=[]
  ·obtain ⟨rfl,rfl⟩:=he
   refine iteF ?_
   rcases hst with ⟨z,_⟩ | ⟨_,k,hW,hroom⟩
   ·cases z
   ·exact fin _ _ ⟨rfl,s2,F,W,k,D2,hW,by omega⟩
  ·have hb:(b && decide (L=[]))=false:=by
    cases b with
    | false=>rfl
    | true =>
     have:L≠[]:=fun z=>he ⟨rfl,z⟩
     simpa using this
   rw [hb,if_neg he]
   refine iteT ⟨fun σ' H'=>∃ (L' F' W':LLI) (k:Nat) (room':Int),σ'=[some (.ref ra),some (.ref ca),some (.int most),some (.ref x),some (.int room')]∧Same H H'∧FAt C H' x ra ca af aw true L' F' W'∧0≤room'∧Wk rss cs F' W' L' k∧room'=most - W'.length∧room'.toNat+(if L'=[] then 0 else 1) < room.toNat+1,fun σ' H' ⟨L',F',W',k,room',e1,e2,e3,e4,e5,e6,e7⟩=>⟨_,e7,true,L',F',W',room',e1,e2,e3,e4,by simp,.inr ⟨rfl,k,e5,e6⟩⟩,?_⟩
   obtain ⟨B,hB,hL,hF,hWl,hLl,hFl⟩:∃ B:Int,B≤2 ^ 60∧(∀ v∈L,v.length=cs.length∧∀ y∈v,0≤y∧y≤B)∧(∀ v∈F,v.length=cs.length)∧W.length≤most∧L.length≤most∧F.length≤most:=by
    rcases hst with ⟨rfl,rfl,rfl,rfl,_⟩ | ⟨rfl,k,hW,hroom⟩
    ·exact ⟨0,by omega,(fun _ z=>nomatch z),(fun _ z=>nomatch z),by simp,by simp,by simp⟩
    ·obtain ⟨i1,i2,i3,i4,i5,i6,i7,i8⟩:=hW.lv
     refine ⟨k,by omega,fun v hv=>⟨(i1 v hv).len,fun y hy=>⟨(i1 v hv).nn y hy,?_⟩⟩,fun v hv=>?_,by omega,by omega,by omega⟩
     ·have:=nn_of (i1 v hv).nn y hy
      rw [(i1 v hv).sum] at this
      exact this
     ·obtain ⟨i,_,_,lv⟩:=i2 v (i3 v hv).1
      exact lv.len
   have hLb:L.length*cs.length≤most*cs.length:=Nat.mul_le_mul_right _ hLl
   have hmm:(most+1)*cs.length=most*cs.length+cs.length:=by rw [Nat.add_mul,Nat.one_mul]
   refine ⟨_,rfl,rd_stepw rfl rfl D2 (Y.same s2) (.inr ⟨room,rfl,r0⟩) hL hB hF (by omega) (by omega) (by omega) fun L' H3 R D3 _ off3=>?_⟩
   refine ⟨_,_,rfl,rfl,?_⟩
   dsimp only [gName]
   have s3:Same H H3:=fun c o e=>off3 c o (by simpa using ⟨ne_of_none e hx,ne_of_none e haf',ne_of_none e haw'⟩) (s2 c o e)
   have key:(∃ k,Wk rss cs (F++L'.filter fun v=>Ans rss v) (W++L') L' k∧room=most - W.length)∨(room < L'.length∧Over rss cs most):=by
    rcases hst with ⟨rfl,rfl,rfl,rfl,hroom⟩ | ⟨rfl,k,hW,hroom⟩
    ·exact .inl ⟨1,by simpa using Wk.one R.ri R.nd (R.fst rfl),by simpa using hroom⟩
    ·have hne:L≠[]:=fun z=>he ⟨rfl,z⟩
     rcases R.all rfl with ha | ⟨m',e',hm'⟩
     ·exact .inl ⟨k+1,.more hW hne R.ri R.nd fun v=>⟨R.snd rfl v,fun ⟨u,hu,hv⟩=>ha u hu v hv⟩,hroom⟩
     ·cases e'
      exact .inr ⟨hm',F,W,L,k,hW,.inr ⟨hne,L',R.nd,R.snd rfl,by omega⟩⟩
   refine ⟨_,rfl,_,_,rfl,rfl,_,rfl,ite2 (fun e=>?_) (fun e=>?_)⟩
   ·have e':room - (L'.length:Int) < 0:=of_decide_eq_true e
    refine ke ?_
    rcases key with ⟨k,hW,hroom⟩ | ⟨_,ho⟩
    ·exact ⟨_,_,_,k,hW,.inl (by rw [List.length_append]; omega)⟩
    ·exact ho
   ·have e':¬ room - (L'.length:Int) < 0:=fun z=>e (decide_eq_true z)
    rcases key with ⟨k,hW,hroom⟩ | ⟨hlt,_⟩
    ·refine ⟨L',_,_,k,_,rfl,s3,D3,by omega,hW,by rw [List.length_append]; omega,?_⟩
     cases L' with
     | nil=>simp
     | cons y L'=>simp only [List.length_cons] at e' ⊢; rw [if_neg (by simp)]; omega
    ·exact absurd hlt (by omega)
end
structure Answer (rss:LLI) (n:Nat) (v:List Int):Prop where
 len:v.length=n
 nn:∀ x∈v,0≤x
 ans:Ans rss v=true
 pos:0 < v.sum
structure Least (rss:LLI) (cs:List (Option Int)) (v:List Int):Prop where
 an:Answer rss cs.length v
 wi:Wi cs v=true
 min:∀ u,Answer rss cs.length u→Under u v→u=v
theorem Under.refl (v:List Int):Under v v:=⟨rfl,fun _ _=>Int.le_refl _⟩
theorem Under.trans {a b c:List Int} (h:Under a b) (g:Under b c):Under a c :=
 ⟨h.1.trans g.1,fun j hj=>Int.le_trans (h.2 j (by rw [g.1]; exact hj)) (g.2 j hj)⟩
theorem Under.eq {a b:List Int} (h:Under a b) (hs:b.sum≤a.sum):a=b:=by
 refine Classical.byContradiction fun ne=>?_
 have:=h.sum.2 ne
 omega
theorem wi_iff {cs:List (Option Int)} {v:List Int} (h:v.length=cs.length):Wi cs v=true↔∀ j,j < cs.length→capB (cs.getD j none) (v.getD j 0)=true:=by
 unfold Wi
 induction cs generalizing v with
 | nil=>simp
 | cons c cs ih =>
  cases v with
  | nil=>cases h
  | cons x v =>
   rw [List.zipWith_cons_cons,List.all_cons,Bool.and_eq_true,ih (by simpa using h)]
   constructor
   ·rintro ⟨h1,h2⟩ j hj
    cases j with
    | zero=>exact h1
    | succ j=>exact h2 j (by simpa using hj)
   ·intro h1
    exact ⟨h1 0 (by simp),fun j hj=>h1 (j+1) (by simpa using hj)⟩
theorem capB_mono {c:Option Int} {x y:Int} (h:capB c y=true) (hx:x≤y):capB c x=true:=by
 cases c with
 | none=>rfl
 | some c =>
  have:y≤c:=of_decide_eq_true h
  exact decide_eq_true (by omega)
theorem wi_mono {cs:List (Option Int)} {u v:List Int} (hv:v.length=cs.length) (h:Wi cs v=true) (hu:Under u v):Wi cs u=true:=by
 rw [wi_iff hv] at h
 rw [wi_iff (by rw [hu.1]; exact hv)]
 intro j hj
 exact capB_mono (h j hj) (hu.2 j (by rw [hv]; exact hj))
theorem ans_pull {rss:LLI} {v:List Int} (h:Ans rss v=true) (j:Nat):Pull rss v j=0:=by
 unfold Pull pullv
 unfold Ans at h
 induction rss with
 | nil=>rfl
 | cons r rss ih =>
  rw [List.all_cons,Bool.and_eq_true,decide_eq_true_eq] at h
  rw [List.map_cons,List.zipWith_cons_cons,List.sum_cons,ih h.2,h.1]
  omega
theorem bel_under {f v:List Int} (hl:f.length=v.length):Bel f v=true↔Under f v:=by
 constructor
 ·intro h
  refine ⟨hl,?_⟩
  unfold Bel at h
  induction f generalizing v with
  | nil =>
   intro j hj
   rw [← hl] at hj
   simp at hj
  | cons x f ih =>
   cases v with
   | nil=>cases hl
   | cons y v =>
    rw [List.zipWith_cons_cons,List.all_cons,Bool.and_eq_true] at h
    intro j hj
    cases j with
    | zero=>exact of_decide_eq_true h.1
    | succ j=>exact ih (by simpa using hl) h.2 j (by simpa using hj)
 ·intro h
  unfold Bel
  induction f generalizing v with
  | nil=>rfl
  | cons x f ih =>
   cases v with
   | nil=>cases hl
   | cons y v =>
    obtain ⟨h1,h2⟩:=h.tail
    rw [List.zipWith_cons_cons,List.all_cons,ih (by simpa using hl) h2,Bool.and_true]
    exact decide_eq_true h1
theorem exists_least {rss:LLI} {cs:List (Option Int)}:∀ (m:Nat) {u:List Int},u.sum≤m→Answer rss cs.length u→Wi cs u=true→∃ a,Least rss cs a∧Under a u
 | 0,u,hm,h,_=>absurd h.pos (by omega)
 | m+1,u,hm,h,hw=>by
  by_cases hx:∃ t,Answer rss cs.length t∧Under t u∧t≠u
  ·obtain ⟨t,h1,h2,h3⟩:=hx
   have:=h2.sum.2 h3
   obtain ⟨a,ha,hu⟩:=exists_least m (u:=t) (by omega) h1 (wi_mono h.len hw h2)
   exact ⟨a,ha,hu.trans h2⟩
  ·exact ⟨u,⟨h,hw,fun t ht hu=>Classical.byContradiction fun ne=>hx ⟨t,ht,hu,ne⟩⟩,Under.refl u⟩
theorem pos_at:∀ {v:List Int},(∀ x∈v,0≤x)→0 < v.sum→∃ j,j < v.length∧1≤v.getD j 0
 | [],_,h=>by simp at h
 | x::v,hn,h=>by
  by_cases hx:1≤x
  ·exact ⟨0,by simp,by simpa using hx⟩
  ·have h0:=hn x List.mem_cons_self
   rw [List.sum_cons] at h
   obtain ⟨j,h1,h2⟩:=pos_at (v:=v) (fun y hy=>hn y (List.mem_cons_of_mem _ hy)) (by omega)
   exact ⟨j+1,by simpa using h1,by simpa using h2⟩
theorem nn_at {v:List Int} (h:∀ x∈v,0≤x) (j:Nat):0≤v.getD j 0:=by
 rw [List.getD_eq_getElem?_getD]
 cases e:v[j]? with
 | none=>simp
 | some x=>simpa using h x (List.mem_of_getElem? e)
structure WkOk (rss:LLI) (cs:List (Option Int)) (F L:LLI) (k:Nat):Prop where
 wi:∀ v∈L,Wi cs v=true
 bar:∀ v∈L,∀ f∈F,Under f v→f=v
 snd:∀ f∈F,Least rss cs f
 all:∀ a,Least rss cs a→a.sum≤k→a∈F
 up:∀ a,Least rss cs a→k≤a.sum→∃ v∈L,Under v a
theorem Wk.ok {rss:LLI} {cs:List (Option Int)} {F W L:LLI} {k:Nat} (hR:∀ r∈rss,r.length=cs.length) (h:Wk rss cs F W L k):WkOk rss cs F L k:=by
 induction h with
 | @one L ri nd h =>
  have hlv:∀ v∈L,LvF cs.length 1 v:=fun v hv=>firsts_lv ((h v).mp hv)
  have hwi:∀ v∈L,Wi cs v=true:=fun v hv=>(List.mem_filter.mp ((h v).mp hv)).2
  have hup:∀ a,Least rss cs a→((1:Nat):Int)≤a.sum→∃ v∈L,Under v a:=fun a ha _=>by
   obtain ⟨j,h1,h2⟩:=pos_at ha.an.nn ha.an.pos
   rw [ha.an.len] at h1
   have hU:Under (unitv cs.length j) a:=⟨by rw [unitv_len,ha.an.len],fun i hi=>by
    rw [ha.an.len] at hi
    rw [unitv_get _ _ _ hi]
    by_cases e:i=j
    ·rw [if_pos e,e]; exact h2
    ·rw [if_neg e]; exact nn_at ha.an.nn i⟩
   exact ⟨_,(h _).mpr (List.mem_filter.mpr ⟨List.mem_map.mpr ⟨j,List.mem_range.mpr h1,rfl⟩,wi_mono ha.an.len ha.wi hU⟩),hU⟩
  refine ⟨hwi,fun v hv f hf hU=>?_,fun f hf=>?_,fun a ha hs=>?_,hup⟩
  ·have h1:=(hlv v hv).sum
   have h2:=(hlv f (List.mem_filter.mp hf).1).sum
   exact hU.eq (by omega)
  ·obtain ⟨hf1,hf2⟩:=List.mem_filter.mp hf
   have lv:=hlv f hf1
   refine ⟨⟨lv.len,lv.nn,hf2,by rw [lv.sum]; decide⟩,hwi f hf1,fun u hu hU=>hU.eq ?_⟩
   have:=hu.pos
   rw [lv.sum]
   omega
  ·obtain ⟨v,hv,hU⟩:=hup a ha (by have:=ha.an.pos; omega)
   have h1:=(hlv v hv).sum
   have:v=a:=hU.eq (by omega)
   subst this
   exact List.mem_filter.mpr ⟨hv,ha.an.ans⟩
 | @more F W L L' k h ne ri nd hm ih =>
  obtain ⟨i1,i2,i3,i4,i5,i6,i7,i8⟩:=h.lv
  have hlv:∀ v∈L',LvF cs.length (k+1) v:=fun v hv=>by
   obtain ⟨u,hu,hx⟩:=(hm v).mp hv
   exact nx_lv (i1 u hu) hx
  have hFs:∀ f∈F,f.length=cs.length∧f.sum≤k:=fun f hf=>by
   obtain ⟨i,q1,q2,lv⟩:=i2 f (i3 f hf).1
   exact ⟨lv.len,by rw [lv.sum]; omega⟩
  have hup:∀ a,Least rss cs a→((k+1:Nat):Int)≤a.sum→∃ v∈L',Under v a:=fun a ha hs=>by
   obtain ⟨v,hv,hU⟩:=ih.up a ha (by omega)
   have lv:=i1 v hv
   have hva:v≠a:=fun z=>by rw [← z,lv.sum] at hs; omega
   have hnA:Ans rss v=false:=by
    cases e:Ans rss v with
    | false=>rfl
    | true=>exact absurd (ha.min v ⟨lv.len,lv.nn,e,by rw [lv.sum]; omega⟩ hU) hva
   have hp:=pl_ne rss v a (fun r hr=>by rw [hR r hr,ha.an.len]) hU hva ha.an.ans
   obtain ⟨j,hj⟩:=List.exists_mem_of_ne_nil _ hp
   have hjl:=pl_mem hj
   have hjp:Pull rss v j < 0:=by
    unfold Pl at hj
    rw [List.mem_filter,hnA,Bool.false_or,Bool.and_eq_true] at hj
    exact of_decide_eq_true hj.2.2
   have hUb:Under (bump v j) a:=hU.bump hj
   have hw:=(wi_iff ha.an.len).mp ha.wi j (by rw [← ha.an.len]; exact hjl.1)
   refine ⟨bump v j,(hm _).mpr ⟨v,hv,j,?_,rfl,?_⟩,hUb⟩
   ·unfold StP
    rw [List.mem_filter,List.mem_filter,List.mem_range,decide_eq_true_eq]
    refine ⟨⟨by rw [hU.1]; exact hjl.1,hjp⟩,?_⟩
    cases e:cs.getD j none with
    | none=>rfl
    | some c =>
     rw [e] at hw
     have:a.getD j 0≤c:=of_decide_eq_true hw
     exact decide_eq_true (by omega)
   ·cases e:Bar F (bump v j) j with
    | false=>rfl
    | true =>
     unfold Bar at e
     obtain ⟨f,hf,hf2⟩:=List.any_eq_true.mp e
     rw [Bool.and_eq_true] at hf2
     have hfl:=(hFs f hf).1
     have hfu:Under f a:=((bel_under (by rw [hfl,bump_len,lv.len])).mp hf2.2).trans hUb
     have:=ha.min f (ih.snd f hf).an hfu
     have h2:=(hFs f hf).2
     rw [this] at h2
     omega
  have hwi:∀ v∈L',Wi cs v=true:=fun v hv=>by
   obtain ⟨u,hu,j,hj,rfl,_⟩:=(hm v).mp hv
   have hul:=(i1 u hu).len
   have hj':=stp_lt hj
   have hw:=ih.wi u hu
   rw [wi_iff hul] at hw
   rw [wi_iff (by rw [bump_len]; exact hul)]
   intro i hi
   rw [bump_at _ _ _ hj'.1]
   by_cases e:i=j
   ·rw [if_pos e,e]
    have h3:=hj'.2.2
    cases ec:cs.getD j none with
    | none=>rfl
    | some c =>
     rw [ec] at h3
     have:u.getD j 0 < c:=of_decide_eq_true h3
     exact decide_eq_true (by omega)
   ·rw [if_neg e]
    exact hw i hi
  have hbar:∀ v∈L',∀ f∈F++L'.filter (fun v=>Ans rss v),Under f v→f=v:=fun v hv f hf hU=>by
   rcases List.mem_append.mp hf with z | z
   ·obtain ⟨u,hu,j,hj,rfl,hb⟩:=(hm v).mp hv
    have hul:=(i1 u hu).len
    have hj':=stp_lt hj
    have hfl:=(hFs f z).1
    exfalso
    by_cases e:f.getD j 0=(bump u j).getD j 0
    ·have:Bar F (bump u j) j=true:=by
      unfold Bar
      exact List.any_eq_true.mpr ⟨f,z,by rw [Bool.and_eq_true]; exact ⟨decide_eq_true e,(bel_under hU.1).mpr hU⟩⟩
     rw [this] at hb
     cases hb
    ·have hfu:Under f u:=⟨by rw [hfl,hul],fun i hi=>by
      have h1:=hU.2 i (by rw [bump_len]; exact hi)
      rw [bump_at _ _ _ hj'.1] at h1
      by_cases ei:i=j
      ·subst ei
       rw [bump_at _ _ _ hj'.1,if_pos rfl] at e
       rw [if_pos rfl] at h1
       omega
      ·rw [if_neg ei] at h1
       exact h1⟩
     have h2:=ih.bar u hu f z hfu
     have h3:=ans_pull (i3 f z).2 j
     rw [h2] at h3
     omega
   ·have h1:=(hlv v hv).sum
    have h2:=(hlv f (List.mem_filter.mp z).1).sum
    exact hU.eq (by omega)
  have hall:∀ a,Least rss cs a→a.sum≤((k+1:Nat):Int)→a∈F++L'.filter (fun v=>Ans rss v):=fun a ha hs=>by
   by_cases h1:a.sum≤(k:Int)
   ·exact List.mem_append_left _ (ih.all a ha h1)
   ·obtain ⟨v,hv,hU⟩:=hup a ha (by omega)
    have h2:=(hlv v hv).sum
    have:v=a:=hU.eq (by omega)
    subst this
    exact List.mem_append_right _ (List.mem_filter.mpr ⟨hv,ha.an.ans⟩)
  refine ⟨hwi,hbar,fun f hf=>?_,hall,hup⟩
  rcases List.mem_append.mp hf with z | z
  ·exact ih.snd f z
  ·obtain ⟨hf1,hf2⟩:=List.mem_filter.mp z
   have lv:=hlv f hf1
   refine ⟨⟨lv.len,lv.nn,hf2,by rw [lv.sum]; omega⟩,hwi f hf1,fun u hu hU=>?_⟩
   refine Classical.byContradiction fun hne=>?_
   have hlt:=hU.sum.2 hne
   rw [lv.sum] at hlt
   obtain ⟨a,ha,hau⟩:=exists_least (rss:=rss) (cs:=cs) u.sum.toNat (by have:=hu.pos; omega) hu (wi_mono lv.len (hwi f hf1) hU)
   have hs:=hau.sum.1
   have hin:=ih.all a ha (by omega)
   have:=hbar f hf1 a (List.mem_append_left _ hin) (hau.trans hU)
   rw [this,lv.sum] at hs
   omega
theorem Wk.least {rss:LLI} {cs:List (Option Int)} {F W:LLI} {k:Nat} (hR:∀ r∈rss,r.length=cs.length) (h:Wk rss cs F W [] k) (v:List Int):v∈F↔Least rss cs v:=by
 have o:=h.ok hR
 refine ⟨o.snd v,fun hv=>?_⟩
 by_cases hs:v.sum≤(k:Int)
 ·exact o.all v hv hs
 ·obtain ⟨u,hu,_⟩:=o.up v hv (by omega)
  cases hu
theorem Wk.nd {rss:LLI} {cs:List (Option Int)} {F W L:LLI} {k:Nat} (h:Wk rss cs F W L k):W.Nodup∧F.Nodup:=by
 induction h with
 | @one L ri nd h=>exact ⟨nd,nd.sublist List.filter_sublist⟩
 | @more F W L L' k h ne ri nd hm ih =>
  obtain ⟨i1,i2,i3,i4,i5,i6,i7,i8⟩:=h.lv
  have hdis:∀ v∈W,∀ u∈L',v≠u:=fun v hv u hu e=>by
   obtain ⟨i,q1,q2,lv⟩:=i2 v hv
   obtain ⟨t,ht,hx⟩:=(hm u).mp hu
   have:=(nx_lv (i1 t ht) hx).sum
   rw [← e,lv.sum] at this
   omega
  refine ⟨List.nodup_append.mpr ⟨ih.1,nd,hdis⟩,List.nodup_append.mpr ⟨ih.2,nd.sublist List.filter_sublist,fun v hv u hu=>hdis v (i3 v hv).1 u (List.mem_filter.mp hu).1⟩⟩
theorem rises_eq:∀ {a b:LLI},Rises a→Rises b→a.Nodup→b.Nodup→(∀ v,v∈a↔v∈b)→a=b
 | [],[],_,_,_,_,_=>rfl
 | [],y::b,_,_,_,_,h=>by have:=(h y).mpr List.mem_cons_self; cases this
 | x::a,[],_,_,_,_,h=>by have:=(h x).mp List.mem_cons_self; cases this
 | x::a,y::b,ra,rb,na,nb,h=>by
  obtain ⟨r1,r2⟩:=List.pairwise_cons.mp ra
  obtain ⟨q1,q2⟩:=List.pairwise_cons.mp rb
  obtain ⟨n1,n2⟩:=List.nodup_cons.mp na
  obtain ⟨m1,m2⟩:=List.nodup_cons.mp nb
  have e:x=y:=by
   refine lex_total x y ?_ ?_
   ·rcases List.mem_cons.mp ((h x).mp List.mem_cons_self) with z | z
    ·rw [z]; exact lex_irrefl y
    ·exact q1 x z
   ·rcases List.mem_cons.mp ((h y).mpr List.mem_cons_self) with z | z
    ·rw [z]; exact lex_irrefl x
    ·exact r1 y z
  subst e
  rw [rises_eq r2 q2 n2 m2 fun v=>?_]
  constructor
  ·intro hv
   rcases List.mem_cons.mp ((h v).mp (List.mem_cons_of_mem _ hv)) with z | z
   ·exact absurd (z ▸ hv) n1
   ·exact z
  ·intro hv
   rcases List.mem_cons.mp ((h v).mpr (List.mem_cons_of_mem _ hv)) with z | z
   ·exact absurd (z ▸ hv) m1
   ·exact z
section
theorem drawsB {src:List (Option Nat)} {σ caps:L2.St} {Q:VK} {n m0 c:Nat} {H:Hp} {a:Addr} {te:TE} (R:Int→Prop) (hn:n≤1000) (hsrc:blkSt src σ=none::caps) (hP:PotAt H a m0)
  (hte:∀ (i:Nat) (H':Hp) (N:VK),i < n→PotAt H' a (m0+c*i)→(∀ r H'',R r→PotAt H'' a (m0+c*i+c)→Off [a] H' H''→N (.int r) H'')→te (some (.int i)::caps) H' N)
  (hd:∀ H' p (xs:List Int),xs.length=n→(∀ x∈xs,R x)→PotAt H' a (m0+c*n)→Off [a] H H'→H' p=none→Q (.ref p) (upd H' p (.lst (xs.map V.int)))):CompW src (gName 0) tTrue te σ Q (Itr 0 n) H:=by
 refine range_by hn hsrc (fun i ys H'=>Ex1 fun (xs:List Int)=>An5 (ys=xs.map V.int) (xs.length=i) ((∀ x∈xs,R x)) (PotAt H' a (m0+c*i)) (Off [a] H H')) ⟨[],rfl,rfl,(fun _ z=>nomatch z),hP,Off.refl _ _⟩ (fun i ys H' h=>by obtain ⟨xs,e,e2,_⟩:=h; rw [e,List.length_map,e2]; exact Nat.le_refl _) ?_ ?_
 ·rintro i ys H' hi ⟨xs,rfl,e2,hR,hP',off⟩
  refine hte i H' _ hi hP' fun r H'' hr hP'' off'=>⟨xs++[r],by simp,by simp [e2],fun x hx=>?_,?_,off.trans off'⟩
  ·rcases List.mem_append.mp hx with q | q
   ·exact hR x q
   ·rw [List.mem_singleton.mp q]; exact hr
  ·have:m0+c*(i+1)=m0+c*i+c:=by rw [Nat.mul_add,Nat.mul_one,Nat.add_assoc]
   rw [this]; exact hP''
 ·rintro ys H' ⟨xs,rfl,e2,hR,hP',off⟩ p hp
  exact hd H' p xs e2 hR hP' off hp
end
section
theorem enum_ints {K:PySem.W.Frag} {src:List (Option Nat)} {σ caps:L2.St} {Q:VK} {k:Bool} {a:Addr} {xs:List Int} {H:Hp} {te:TE} (R:Int→Prop) (hl:xs.length≤1000)
  (hmono:∀ H',Same H H'→SqK k K H' a (xs.map V.int)) (hsrc:blkSt src σ=none::none::caps)
  (hte:∀ (i:Nat) x H1 (Q1:VK),i < xs.length→x∈xs→Same H H1→(∀ z,R z→Q1 (.int z) H1)→te (some (.int i)::some (.int x)::caps) H1 Q1)
  (hd:∀ H1 p (zs:List Int),Same H H1→H1 p=none→zs.length=xs.length→(∀ z∈zs,R z)→Q (.ref p) (upd H1 p (.lst (zs.map V.int)))) :
  CompW src (gTup K 2 (gCons (gName 0) (gCons (gName 1) gNil))) tTrue te σ Q (Ite K k a) H:=by
 have hz:(1000:Nat)≤sizeLine:=by rw [sizeLine_eq]; decide
 refine comp_by xs.length (fun i ys H'=>Same H H'∧∃ zs:List Int,ys=zs.map V.int∧zs.length=i∧∀ z∈zs,R z) ⟨Same.refl H,[],rfl,rfl,fun _ z=>nomatch z⟩ (fun i ys H' hi h=>?_) fun ys H' h=>?_
 ·obtain ⟨s,zs,rfl,hzl,hzR⟩:=h
  have q1:=hmono H' s
  have hi':i < (xs.map V.int).length:=by rw [List.length_map]; exact hi
  refine ⟨⟨_,_,q1,List.getElem?_eq_getElem hi'⟩,by rw [List.length_map]; omega,fun x H2 y=>?_⟩
  obtain ⟨pp,x',e,e2,e3,y1⟩:=y
  subst e e3
  obtain ⟨z',hz',rfl⟩:=get_int (y1 _ q1)
  have s':Same H (upd H' pp (.tup [.int i,.int z'])):=s.upd e2
  refine ⟨pp,[.int i,.int z'],rfl,SqT.of upd_same,rfl,.int i,[.int z'],rfl,.int z',[],rfl,rfl,?_⟩
  rw [hsrc]
  show Sub _ (some (.int i)::some (.int z')::caps)∧_
  refine ⟨⟨rfl,fun j v e=>?_⟩,?_⟩
  ·match j,e with
   | 0,e=>cases e
   | 1,e=>cases e
   | j+2,e=>exact e
  ·refine hte i z' _ _ hi (List.mem_of_getElem? hz') s' fun z hR=>⟨s',zs++[z],by simp,by simp [hzl],fun u hu=>?_⟩
   rcases List.mem_append.mp hu with q | q
   ·exact hzR u q
   ·rw [List.mem_singleton.mp q]; exact hR
 ·obtain ⟨s,zs,rfl,hzl,hzR⟩:=h
  exact ⟨⟨_,hmono H' s,by rw [List.length_map]; exact Nat.le_refl _⟩,by rw [List.length_map]; omega,fun p hp=>hd H' p zs s hp hzl hzR⟩
end
section
variable {P:Program} {w:World} {K:PySem.W.Frag} {mg:Str→Option Value} {base:Heap}
theorem two_at (x y:Int) (c:Bool):∃ m:Int,atI [V.int x,.int y] (if c=true then 1 else 0)=some (.int m)∧(m=x∨m=y):=by
 cases c
 ·exact ⟨x,rfl,.inl rfl⟩
 ·exact ⟨y,rfl,.inr rfl⟩
theorem ixNat {n k:Nat} (h:k < n):ixN n (k:Int)=some k:=by
 unfold ixN
 rw [if_pos (by omega),if_pos (by omega)]
 rfl
def Bd (B:Int) (xs:List Int):Prop:=∀ z∈xs,-B≤z∧z≤B
theorem Bd.at {B:Int} {xs:List Int} (h:Bd B xs) {k:Nat} (hk:k < xs.length) : -B≤xs.getD k 0∧xs.getD k 0≤B:=by
 refine h _ ?_
 rw [List.getD_eq_getElem?_getD,List.getElem?_eq_getElem hk]
 exact List.getElem_mem _
theorem Bd.set {B C:Int} {xs:List Int} (h:Bd B xs) (hBC:B≤C) {k:Nat} {z:Int} (h1 : -C≤z) (h2:z≤C):Bd C (xs.set k z):=fun x hx=>by
 rcases List.mem_or_eq_of_mem_set hx with q | q
 ·have:=h x q; omega
 ·omega
def Sml (xs:List Int):Prop:=∀ x∈xs,0≤x∧x≤3
theorem Sml.at {xs:List Int} (h:Sml xs) {k:Nat} (hk:k < xs.length):0≤xs.getD k 0∧xs.getD k 0≤3:=by
 refine h _ ?_
 rw [List.getD_eq_getElem?_getD,List.getElem?_eq_getElem hk]
 exact List.getElem_mem _
theorem mul3 {t x:Int} (h1 : -1≤t) (h2:t≤1) (x0:0≤x) (x3:x≤3) : -3≤t*x∧t*x≤3:=by
 have:t = -1∨t=0∨t=1:=by omega
 rcases this with rfl | rfl | rfl <;> omega
inductive IspRow (vs:List V) (H:Hp) (Q:VK) (E:XK):Prop
 | mk (a:Addr) (y:V) (n:Nat) (xs:List Int) (_:vs=[.ref a,y]) (_:IT H y xs) (_:1≤xs.length) (_:xs.length≤8) (_:Sml xs) (_:PotAt H a n) (_:n+200 < 2 ^ 60) (_:∀ v rs H',rs.length=xs.length→Bd 1000 rs→IT H' v rs→PotAt H' a (n+100)→Off [a] H H'→Q v H'):IspRow  vs H Q E
def spRow:Sp:=fun vs H Q E=>IspRow  vs H Q E
theorem sc__law_row:FnScope ["_law_draw", "_law_one", "_law_width", "_law_found", "_law_k", "_law_a", "_law_b", "_law_times"] ["_law_draw", "_law_one"] (defScope s__law_row):=⟨rfl,rfl,rfl,by decide +kernel,rfl,by decide +kernel,by decide +kernel⟩
theorem ok_row (F:FunAt K mg "_law_row" s__law_row ["_law_draw", "_law_one"]) (T:Tx mg) (O__law_take:Ok P w K mg base "_law_take" 1 ["_law_pot_here", "_law_many"] spTake):Ok P w K mg base "_law_row" 2 ["_law_draw", "_law_one"] spRow:=by
 refine F.okJ sc__law_row (fun vs H Q E h=>?_) (fun cdv f A outer s H vs Q E hr h=>?_)
 ·obtain ⟨a,y,n,xs,rfl,_⟩:=h
  rfl
 ·obtain ⟨a,_,n,xs,rfl,⟨ya,rfl,hy⟩,hx1,hx8,hxs,hP,hn,kk⟩:=h
  have hz:(3000:Nat)≤sizeLine:=by rw [sizeLine_eq]; decide
  refine ⟨_,(jb_cons (js_set (i:=2) sc__law_row.nd rfl (Or.inl rfl) (jc_len K rfl T.b_len (ja_cons (jv 1) ja_nil)))
 (jb_cons (js_setC (i:=3) sc__law_row.nd rfl (Or.inl rfl) (N:=["_law_j", "_law_draw"]) (src:=[none,some 0]) (ji_range1 rfl T.b_range (ja_cons (jv 2) ja_nil)) (by show capOk _ _=true; rfl) (by rfl) (by rfl)
 (fun _ _ _ _ _=>(jg_name (i:=0) (show (["_law_j", "_law_draw"]:List Str).Nodup by decide +kernel) rfl (Or.inl rfl))) (fun _ _ _ _ _=>jf_nil) (fun _ _ _ _ _=>(j_sub (j_call O__law_take (hr.mono (by omega)) rfl (ja_cons (jv 1) (ja_cons j_int ja_nil))) j_int)))
 (jb_cons (js_if (jt_eq (j_call O__law_take (hr.mono (by omega)) rfl (ja_cons (jv 0) (ja_cons j_int ja_nil))) j_int)
 (jb_one (js_ret (jc_tuple K rfl T.b_tuple (ja_cons (jv 3) ja_nil))))
 jb_nil)
 (jb_cons (js_setC (i:=3) sc__law_row.nd rfl (Or.inl rfl) (N:=["_law_j", "_law_number", "_law_one"]) (src:=[none,none,some 1]) (ji_enum K rfl T.b_enumerate (ja_cons (jv 3) ja_nil)) (by show capOk _ _=true; rfl) (by rfl) (by rfl)
 (fun _ _ _ _ _=>(jg_tup K 2 (jgs_cons (jg_name (i:=0) (show (["_law_j", "_law_number", "_law_one"]:List Str).Nodup by decide +kernel) rfl (Or.inl rfl)) (jgs_cons (jg_name (i:=1) (show (["_law_j", "_law_number", "_law_one"]:List Str).Nodup by decide +kernel) rfl (Or.inl rfl)) jgs_nil)))) (fun _ _ _ _ _=>jf_nil) (fun _ _ _ _ _=>(j_mul (jv 1) (jc_int rfl T.b_int (ja_cons (jv_eq (j_ixT K (jv 2) (jv 0)) j_int) ja_nil)))))
 (jb_cons (js_for (ji_range1 rfl T.b_range (ja_cons (j_add j_int (j_call O__law_take (hr.mono (by omega)) rfl (ja_cons (jv 0) (ja_cons j_int ja_nil)))) ja_nil)) (jg_name (i:=4) sc__law_row.nd rfl (Or.inl rfl))
 (jb_cons (js_set (i:=5) sc__law_row.nd rfl (Or.inl rfl) (j_call O__law_take (hr.mono (by omega)) rfl (ja_cons (jv 0) (ja_cons (jv 2) ja_nil))))
 (jb_cons (js_set (i:=6) sc__law_row.nd rfl (Or.inl rfl) (j_call O__law_take (hr.mono (by omega)) rfl (ja_cons (jv 0) (ja_cons (jv 2) ja_nil))))
 (jb_cons (js_set (i:=7) sc__law_row.nd rfl (Or.inl rfl) (j_sub (j_call O__law_take (hr.mono (by omega)) rfl (ja_cons (jv 0) (ja_cons j_int ja_nil))) j_int))
 (jb_cons (js_asg (j_add (j_ixL K (jv 3) (jv 5)) (j_mul (jv 7) (j_ixT K (jv 1) (jv 6)))) (jg_sub (jv 3) (jv 5)))
 (jb_one (js_asg (j_sub (j_ixL K (jv 3) (jv 6)) (j_mul (jv 7) (j_ixT K (jv 1) (jv 5)))) (jg_sub (jv 3) (jv 6)))))))))
 (jb_one (js_ret (jc_tuple K rfl T.b_tuple (ja_cons (jv 3) ja_nil))))))))),?_⟩
  refine ⟨_,rfl,ya,_,rfl,.inr (SqT.of hy),?_⟩
  rw [List.length_map]
  dsimp only [gName]
  have hny:ya ∉ [a]:=potne hP hy
  refine ⟨_,rfl,_,rfl,by omega,by omega,?_⟩
  rw [Int.toNat_natCast]
  refine drawsB (caps:=[some (.ref a)]) (c:=1) (fun z => -3≤z∧z≤3) (by omega) rfl hP (fun i H' N hi hP' q=>⟨_,rfl,a,_,7,rfl,hP',by omega,by decide,by decide,fun r H'' h0 h1 hP'' o''=>⟨_,_,rfl,rfl,q _ H'' ⟨by omega,by omega⟩ hP'' o''⟩⟩) ?_
  intro H1 pf fs hfl hfs hP1 off1 hpf
  have s2:=(Same.refl H1).upd (o:=.lst (fs.map V.int)) hpf
  have e2:upd H1 pf (.lst (fs.map V.int)) pf=some (.lst (fs.map V.int)):=upd_same
  have hpf1:=potfree hP1 hpf
  have hP2:=hP1.same s2
  have off2:Off [a] H (upd H1 pf (.lst (fs.map V.int))):=off1.trans s2.off
  generalize upd H1 pf (.lst (fs.map V.int))=H2 at e2 hP2 off2
  clear s2 hpf off1 hP1
  dsimp only [gName]
  refine ⟨_,rfl,a,_,3,rfl,hP2,by omega,by decide,by decide,fun r3 H3 _ _ hP3 off3=>?_⟩
  have e3:=off3 _ _ hpf1 e2
  have off3:=off2.trans off3
  have hy3:=off3 _ _ hny hy
  clear e2 hP2 off2
  refine ⟨rfl,_,rfl,ite2 (fun e=>?_) (fun e=>?_)⟩
  ·refine ⟨_,rfl,pf,_,rfl,.inl ⟨SqL.of e3,fun q hq=>?_⟩⟩
   have s4:=(Same.refl H3).upd (o:=.tup (fs.map V.int)) hq
   exact kk _ fs _ hfl (fun z hz=>by have:=hfs z hz; omega) ⟨q,rfl,upd_same⟩ ((hP3.same s4).mono (by omega)) (off3.trans s4.off)
  refine ⟨_,rfl,false,pf,rfl,⟨_,SqL.of e3⟩,?_⟩
  refine enum_ints (caps:=[some (.ref ya)]) (fun z => -3≤z∧z≤3) (by omega) (fun H' s=>SqL.of (s _ _ e3)) rfl (fun i x H4 Q4 hi hx s4 q=>?_) fun H4 p4 gs s4 hp4 hgl hgs=>?_
  ·have hb:=hfs x hx
   refine ⟨_,rfl,_,rfl,_,rfl,ya,_,_,_,rfl,rfl,SqT.of (s4 _ _ hy3),at_int (by omega),rfl,.inr ⟨_,rfl,?_⟩⟩
   refine ⟨_,_,rfl,rfl,.inr (by split <;> decide),q _ ?_⟩
   split <;> omega
  have s5:=s4.upd (o:=.lst (gs.map V.int)) hp4
  have e5:upd H4 p4 (.lst (gs.map V.int)) p4=some (.lst (gs.map V.int)):=upd_same
  have hp5:p4 ∉ [a]:=potfree (hP3.same s4) hp4
  have hfr:H p4=none:=by
   have h3:H3 p4=none:=s4.free hp4
   rcases e:H p4 with _ | u
   ·rfl
   ·have:=off3 _ _ hp5 e
    rw [h3] at this
    cases this
  have hP5:=(hP3.same s5).mono (m:=n+20) (by omega)
  have off5:=off3.trans s5.off
  generalize upd H4 p4 (.lst (gs.map V.int))=H5 at s5 e5 hP5 off5
  clear s4 hp4 s5 e3 hP3 off3 hy3 hpf1 hfs
  dsimp only [gName]
  refine ⟨_,rfl,a,_,3,rfl,hP5,by omega,by decide,by decide,fun r6 H6 h60 h61 hP6 off6=>?_⟩
  refine ⟨_,_,rfl,rfl,_,rfl,by omega,by omega,?_⟩
  have e6:=off6 _ _ hp5 e5
  have off6:=off5.trans off6
  obtain ⟨N,hN⟩:∃ N:Nat,r6=N:=⟨r6.toNat,by omega⟩
  subst hN
  rw [show (1+(N:Int)).toNat=N+1 by omega]
  refine for_range (lo:=0) (n:=N+1) (fun i σ H'=>Ex5 fun (o4 o5 o6 o7:Option V) (fs:List Int)=>An6 (σ=[some (.ref a),some (.ref ya),some (.int xs.length),some (.ref p4),o4,o5,o6,o7]) (PotAt H' a (n+21+5*i)) (Off [a] H H') (H' p4=some (.lst (fs.map V.int))) (fs.length=xs.length) (Bd (3+6*i) fs))
   ⟨none,none,none,none,_,rfl,hP6,off6,e6,by omega,fun z hz=>by have:=hgs z hz; omega⟩ ?_ ?_
  ·rintro i σ H' hi ⟨o4,o5,o6,o7,fs,rfl,hP',off',hf',hfl,hfB⟩
   refine ⟨_,rfl,_,rfl,a,_,_,rfl,hP',by omega,by omega,by omega,fun r4 H4 h40 h41 hP4 off4=>?_⟩
   obtain ⟨ka,rfl⟩:∃ k:Nat,r4=k:=⟨r4.toNat,by omega⟩
   dsimp only [gName]
   refine ⟨_,rfl,_,rfl,a,_,_,rfl,hP4,by omega,by omega,by omega,fun r5 H5 h50 h51 hP5 off5=>?_⟩
   obtain ⟨kb,rfl⟩:∃ k:Nat,r5=k:=⟨r5.toNat,by omega⟩
   dsimp only [gName]
   refine ⟨_,rfl,a,_,3,rfl,hP5,by omega,by decide,by decide,fun t H6 t0 t1 hP6 off6=>?_⟩
   refine ⟨_,_,rfl,rfl,?_⟩
   obtain ⟨t,ht⟩:∃ t',t - 1=t':=⟨_,rfl⟩
   dsimp only [gName]
   rw [ht]
   have hf6:=off6 _ _ hp5 (off5 _ _ hp5 (off4 _ _ hp5 hf'))
   have off6:=((off'.trans off4).trans off5).trans off6
   have hy6:=off6 _ _ hny hy
   clear hf' off' off4 off5 hP' hP4 hP5
   have xa:=hxs.at (k:=ka) (by omega)
   have xb:=hxs.at (k:=kb) (by omega)
   have fa:=hfB.at (k:=ka) (by omega)
   have hb1:=mul3 (t:=t) (by omega) (by omega) xb.1 xb.2
   have hb2:=mul3 (t:=t) (by omega) (by omega) xa.1 xa.2
   refine ⟨_,rfl,_,rfl,p4,_,_,_,rfl,rfl,SqL.of hf6,at_int (by omega),_,rfl,_,rfl,_,rfl,ya,_,_,_,rfl,rfl,SqT.of hy6,at_int (by omega),_,_,rfl,rfl,.inr ⟨by omega,by omega⟩,_,_,rfl,rfl,?_⟩
   refine ⟨_,rfl,_,rfl,p4,_,_,ka,rfl,rfl,hf6,ixNat (by rw [List.length_map]; omega),?_⟩
   dsimp only
   rw [show (fs.map V.int).set ka (.int (fs.getD ka 0+t*xs.getD kb 0))=(fs.set ka (fs.getD ka 0+t*xs.getD kb 0)).map V.int by rw [List.map_set]]
   have hB7:Bd (3+6*i+3) (fs.set ka (fs.getD ka 0+t*xs.getD kb 0)):=hfB.set (by omega) (by omega) (by omega)
   have hl7:(fs.set ka (fs.getD ka 0+t*xs.getD kb 0)).length=xs.length:=by rw [List.length_set]; exact hfl
   generalize fs.set ka (fs.getD ka 0+t*xs.getD kb 0)=gs at hB7 hl7
   have hP7:=pot_put (o:=.lst (gs.map V.int)) hP6 hp5
   have off7:=off_fresh (o:=.lst (gs.map V.int)) off6 hfr
   have hf7:upd H6 p4 (.lst (gs.map V.int)) p4=some (.lst (gs.map V.int)):=upd_same
   generalize upd H6 p4 (.lst (gs.map V.int))=H7 at hP7 off7 hf7
   have hy7:=off7 _ _ hny hy
   have gb:=hB7.at (k:=kb) (by omega)
   clear hfB hP6 off6 hf6 hy6 fa hfl
   refine ⟨_,rfl,_,rfl,p4,_,_,_,rfl,rfl,SqL.of hf7,at_int (by omega),_,rfl,_,rfl,_,rfl,ya,_,_,_,rfl,rfl,SqT.of hy7,at_int (by omega),_,_,rfl,rfl,.inr ⟨by omega,by omega⟩,_,_,rfl,rfl,?_⟩
   refine ⟨_,rfl,_,rfl,p4,_,_,kb,rfl,rfl,hf7,ixNat (by rw [List.length_map]; omega),?_⟩
   dsimp only
   rw [show (gs.map V.int).set kb (.int (gs.getD kb 0 - t*xs.getD ka 0))=(gs.set kb (gs.getD kb 0 - t*xs.getD ka 0)).map V.int by rw [List.map_set]]
   exact ⟨_,_,_,_,_,rfl,(pot_put hP7 hp5).mono (by omega),off_fresh off7 hfr,upd_same,by rw [List.length_set]; exact hl7,hB7.set (by omega) (by omega) (by omega)⟩
  ·rintro σ H' ⟨o4,o5,o6,o7,fs,rfl,hP',off',hf',hfl,hfB⟩
   refine ⟨_,rfl,p4,_,rfl,.inl ⟨SqL.of hf',fun q hq=>?_⟩⟩
   have s5:=(Same.refl H').upd (o:=.tup (fs.map V.int)) hq
   exact kk _ fs _ hfl (fun z hz=>by have:=hfB z hz; omega) ⟨q,rfl,upd_same⟩ ((hP'.same s5).mono (by omega)) (off'.trans s5.off)
theorem many_at (r:Int) (h0:0≤r) (h1:r < 8):∃ z:Nat,atI [V.int 0,.int 1,.int 1,.int 1,.int 2,.int 2,.int 3,.int 1] r=some (.int z)∧z≤3:=by
 have:r=0∨r=1∨r=2∨r=3∨r=4∨r=5∨r=6∨r=7:=by omega
 rcases this with rfl | rfl | rfl | rfl | rfl | rfl | rfl | rfl
 ·exact ⟨0,rfl,by decide⟩
 ·exact ⟨1,rfl,by decide⟩
 ·exact ⟨1,rfl,by decide⟩
 ·exact ⟨1,rfl,by decide⟩
 ·exact ⟨2,rfl,by decide⟩
 ·exact ⟨2,rfl,by decide⟩
 ·exact ⟨3,rfl,by decide⟩
 ·exact ⟨1,rfl,by decide⟩
inductive IspSystem (K:PySem.W.Frag) (vs:List V) (H:Hp) (Q:VK) (E:XK):Prop
 | mk (a:Addr) (ns:List Int) (_:vs=[.ref a]) (_:SqL K H a (ns.map V.int)) (_:∀ (q ya q4:Addr) (us:List V) (xs:List Int) (rss:LLI) (H':Hp),H' q=some (.tup [.ref ya,.ref q4])→H' ya=some (.tup (xs.map V.int))→1≤xs.length→xs.length≤7→H' q4=some (.tup us)→Its H' us rss→us.length≤3→(∀ r∈rss,r.length=xs.length∧Bd 1000 r)→Same H H'→Q (.ref q) H'):IspSystem K vs H Q E
def spSystem (K:PySem.W.Frag):Sp:=fun vs H Q E=>IspSystem K vs H Q E
theorem sc__law_system:FnScope ["_law_script", "_law_head", "_law_width", "_law_many", "_law_draw", "_law_one", "_law_rows"] ["_law_script"] (defScope s__law_system):=⟨rfl,rfl,rfl,by decide +kernel,rfl,by decide +kernel,by decide +kernel⟩
theorem ok_system (F:FunAt K mg "_law_system" s__law_system ["_law_script"]) (T:Tx mg) (O__law_take:Ok P w K mg base "_law_take" 1 ["_law_pot_here", "_law_many"] spTake) (O__law_pot:Ok P w K mg base "_law_pot" 2 ["_law_script", "_law_k"] (spPot K)) (O__law_row:Ok P w K mg base "_law_row" 2 ["_law_draw", "_law_one"] spRow):Ok P w K mg base "_law_system" 3 ["_law_script"] (spSystem K):=by
 refine F.okJ sc__law_system (fun vs H Q E h=>?_) (fun cdv f A outer s H vs Q E hr h=>?_)
 ·obtain ⟨a,ns,rfl,_⟩:=h
  rfl
 ·obtain ⟨a,ns,rfl,hS,kk⟩:=h
  have hz:(3000:Nat)≤sizeLine:=by rw [sizeLine_eq]; decide
  refine ⟨_,(jb_cons (js_set (i:=1) sc__law_system.nd rfl (Or.inl rfl) (j_call O__law_pot (hr.mono (by omega)) rfl (ja_cons (jv 0) (ja_cons j_int ja_nil))))
 (jb_cons (js_set (i:=2) sc__law_system.nd rfl (Or.inl rfl) (j_ixL K (j_lst (ja_cons (j_add j_int (j_call O__law_take (hr.mono (by omega)) rfl (ja_cons (jv 1) (ja_cons j_int ja_nil)))) (ja_cons (j_add j_int (j_call O__law_take (hr.mono (by omega)) rfl (ja_cons (jv 1) (ja_cons j_int ja_nil)))) ja_nil))) (jc_int rfl T.b_int (ja_cons (jv_eq (j_call O__law_take (hr.mono (by omega)) rfl (ja_cons (jv 1) (ja_cons j_int ja_nil))) j_int) ja_nil))))
 (jb_cons (js_set (i:=3) sc__law_system.nd rfl (Or.inl rfl) (j_ixL K (j_lst (ja_cons j_int (ja_cons j_int (ja_cons j_int (ja_cons j_int (ja_cons j_int (ja_cons j_int (ja_cons j_int (ja_cons j_int ja_nil))))))))) (j_call O__law_take (hr.mono (by omega)) rfl (ja_cons (jv 1) (ja_cons j_int ja_nil)))))
 (jb_cons (js_set (i:=4) sc__law_system.nd rfl (Or.inr rfl) (j_call O__law_pot (hr.mono (by omega)) rfl (ja_cons (jv 0) (ja_cons j_int ja_nil))))
 (jb_cons (js_set (i:=5) sc__law_system.nd rfl (Or.inr rfl) (jc_tuple K rfl T.b_tuple (ja_cons (j_comp (N:=["_law_j", "_law_draw"]) (src:=[none,some 4]) (ji_range1 rfl T.b_range (ja_cons (jv 2) ja_nil)) (by show capOk _ _=true; rfl) (by rfl) (by rfl)
 (fun _ _ _ _ _=>(jg_name (i:=0) (show (["_law_j", "_law_draw"]:List Str).Nodup by decide +kernel) rfl (Or.inl rfl))) (fun _ _ _ _ _=>jf_nil) (fun _ _ _ _ _=>(j_call O__law_take (hr.mono (by omega)) rfl (ja_cons (jv 1) (ja_cons j_int ja_nil))))) ja_nil)))
 (jb_cons (js_setC (i:=6) sc__law_system.nd rfl (Or.inl rfl) (N:=["_law_k", "_law_script", "_law_one"]) (src:=[none,some 0,some 5]) (ji_range1 rfl T.b_range (ja_cons (jv 3) ja_nil)) (by show capOk _ _=true; rfl) (by rfl) (by rfl)
 (fun _ _ _ _ _=>(jg_name (i:=0) (show (["_law_k", "_law_script", "_law_one"]:List Str).Nodup by decide +kernel) rfl (Or.inl rfl))) (fun _ _ _ _ _=>jf_nil) (fun _ _ _ _ _=>(j_call O__law_row (hr.mono (by omega)) rfl (ja_cons (j_call O__law_pot (hr.mono (by omega)) rfl (ja_cons (jv 1) (ja_cons (j_add j_int (jv 0)) ja_nil))) (ja_cons (jv 2) ja_nil)))))
 (jb_one (js_ret (j_tup (ja_cons (jv 5) (ja_cons (jc_tuple K rfl T.b_tuple (ja_cons (jv 6) ja_nil)) ja_nil))))))))))),?_⟩
  refine ⟨_,rfl,a,ns,_,0,rfl,rfl,by omega,hS,fun p H1 hp hP1 s1=>?_⟩
  dsimp only [gName]
  refine ⟨_,rfl,p,_,4,rfl,hP1,by omega,by decide,by decide,fun r2 H2 h20 h21 hP2 off2=>?_⟩
  refine ⟨_,_,rfl,rfl,_,rfl,p,_,7,rfl,hP2,by omega,by decide,by decide,fun r3 H3 h30 h31 hP3 off3=>?_⟩
  refine ⟨_,_,rfl,rfl,by show 2≤sizeLine; omega,fun p4 hp4=>?_⟩
  dsimp only
  have s4:=(Same.refl H3).upd (o:=.lst [V.int (1+r2),.int (1+r3)]) hp4
  have hp41:=potfree hP3 hp4
  refine ⟨_,rfl,p,_,8,rfl,hP3.same s4,by omega,by decide,by decide,fun r5 H5 h50 h51 hP5 off5=>?_⟩
  refine ⟨rfl,.inr ⟨_,rfl,?_⟩⟩
  obtain ⟨wi,hw1,hw2⟩:=two_at (1+r2) (1+r3) (decide (V.int r5=V.int 0))
  refine ⟨p4,_,_,_,rfl,rfl,SqL.of (off5 _ _ hp41 upd_same),hw1,?_⟩
  have off5:Off [p] H1 H5:=((off2.trans off3).trans s4.off).trans off5
  obtain ⟨wd,rfl⟩:∃ wd:Nat,wi=wd:=⟨wi.toNat,by omega⟩
  have hwd:1≤wd∧wd≤7:=by omega
  clear hw1 hw2 off2 off3 s4 hp4 hp41 hP1 hP2 hP3
  dsimp only [gName]
  refine ⟨by show 8≤sizeLine; omega,fun p7 hp7=>?_⟩
  have s7:=(Same.refl H5).upd (o:=.lst [V.int 0,.int 1,.int 1,.int 1,.int 2,.int 2,.int 3,.int 1]) hp7
  have hp71:=potfree hP5 hp7
  refine ⟨_,rfl,p,_,8,rfl,hP5.same s7,by omega,by decide,by decide,fun r8 H8 h80 h81 hP8 off8=>?_⟩
  obtain ⟨mn,hm1,hm3⟩:=many_at r8 h80 h81
  refine ⟨p7,_,_,_,rfl,rfl,SqL.of (off8 _ _ hp71 upd_same),hm1,?_⟩
  have s8:Same H H8:=same_fresh s1 hp ((off5.trans s7.off).trans off8)
  clear hm1 off5 s7 hp7 hp71 hP5 off8 hP8 s1 hp
  dsimp only [gName]
  refine ⟨_,rfl,a,ns,_,1,rfl,rfl,by omega,s8.seq hS,fun p9 H9 hp9 hP9 s9=>?_⟩
  dsimp only [gName]
  refine ⟨_,rfl,_,rfl,by omega,by omega,?_⟩
  rw [Int.toNat_natCast]
  refine drawsB (caps:=[some (.ref p9)]) (c:=1) (fun z=>0≤z∧z≤3) (by omega) rfl hP9 (fun i H' N hi hP' q=>⟨_,rfl,p9,_,4,rfl,hP',by omega,by decide,by decide,fun r H'' h0 h1 hP'' o''=>q _ H'' ⟨by omega,by omega⟩ hP'' o''⟩) ?_
  intro H10 p10 xs hxl hxs hP10 off10 hp10
  refine ⟨p10,_,rfl,.inl ⟨SqL.of upd_same,fun ya hya=>?_⟩⟩
  have s11:=((Same.refl H10).upd (o:=.lst (xs.map V.int)) hp10).upd (o:=.tup (xs.map V.int)) hya
  have e11:upd (upd H10 p10 (.lst (xs.map V.int))) ya (.tup (xs.map V.int)) ya=some (.tup (xs.map V.int)):=upd_same
  have s11:=s8.trans ((same_fresh s9 hp9 off10).trans s11)
  generalize upd (upd H10 p10 (.lst (xs.map V.int))) ya (.tup (xs.map V.int))=H11 at s11 e11
  clear s8 s9 hP9 off10 hP10 hp9 hp10 hya
  dsimp only [gName]
  refine ⟨_,rfl,_,rfl,by omega,by omega,?_⟩
  rw [Int.toNat_natCast]
  refine range_by (n:=mn) (caps:=[some (.ref a),some (.ref ya)]) (by omega) rfl (fun i us H'=>Same H11 H'∧us.length=i∧∃ rss,Its H' us rss∧∀ r∈rss,r.length=xs.length∧Bd 1000 r) ⟨Same.refl _,rfl,[],Its.nil,(fun _ z=>nomatch z)⟩ (fun i ys H' h=>by rw [h.2.1]; exact Nat.le_refl _) ?_ ?_
  ·rintro i us H' hi ⟨s',hul,rss,hI',hR'⟩
   refine ⟨_,rfl,_,rfl,_,_,rfl,rfl,a,ns,_,2+i,rfl,by omega,by omega,(s11.trans s').seq hS,fun p12 H12 hp12 hP12 s12=>?_⟩
   refine ⟨_,rfl,p12,_,_,xs,rfl,⟨ya,rfl,(s'.trans s12) _ _ e11⟩,by omega,by omega,hxs,hP12,by omega,fun v13 rs H13 hrl hrB hv13 hP13 off13=>?_⟩
   have s13:=same_fresh s12 hp12 off13
   refine ⟨s'.trans s13,by simp [hul],rss++[rs],(hI'.same s13).snoc hv13,fun r hr=>?_⟩
   rcases List.mem_append.mp hr with q | q
   ·exact hR' r q
   ·rw [List.mem_singleton.mp q]
    exact ⟨hrl,hrB⟩
  ·rintro us H' ⟨s',hul,rss,hI',hR'⟩ p13 hp13
   have s13:=s'.upd (o:=.lst us) hp13
   have e13:upd H' p13 (.lst us) p13=some (.lst us):=upd_same
   have hI13:=hI'.same ((Same.refl H').upd (o:=.lst us) hp13)
   generalize upd H' p13 (.lst us)=H13 at s13 e13 hI13
   dsimp only [gName]
   refine ⟨_,rfl,_,rfl,p13,us,rfl,.inl ⟨SqL.of e13,fun q4 hq4=>?_⟩⟩
   have s14:=(Same.refl H13).upd (o:=.tup us) hq4
   have e14:upd H13 q4 (.tup us) q4=some (.tup us):=upd_same
   generalize upd H13 q4 (.tup us)=H14 at s14 e14
   refine ⟨by show 2≤sizeLine; omega,fun q hq=>?_⟩
   have s15:=(Same.refl H14).upd (o:=.tup [.ref ya,.ref q4]) hq
   have s1015:=(s13.trans s14).trans s15
   exact kk q ya q4 us xs rss _ upd_same (s1015 _ _ e11) (by omega) (by omega) (s15 _ _ e14) (hI13.same (s14.trans s15)) (by omega) hR' (s11.trans s1015)
inductive IspTotals (vs:List V) (H:Hp) (Q:VK) (E:XK):Prop
 | mk (a:Addr) (y:V) (us:List V) (rss:LLI) (ys:List Int) (_:vs=[.ref a,y]) (_:H a=some (.tup us)) (_:Its H us rss) (_:IT H y ys) (_:us.length≤1000) (_:(∀ r∈rss,r.length≤1000)) (_:Sm ys) (_:∀ p H',Same H H'→H' p=some (.lst ((rss.map fun r=>dot r ys).map V.int))→Q (.ref p) H'):IspTotals  vs H Q E
def spTotals:Sp:=fun vs H Q E=>IspTotals  vs H Q E
theorem sc__law_sums:FnScope ["_law_rows", "_law_one"] ["_law_rows", "_law_one"] (defScope s__law_sums):=⟨rfl,rfl,rfl,by decide +kernel,rfl,by decide +kernel,by decide +kernel⟩
theorem ok_sums2 (F:FunAt K mg "_law_sums" s__law_sums ["_law_rows", "_law_one"]) (T:Tx mg):Ok P w K mg base "_law_sums" 1 ["_law_rows", "_law_one"] spTotals:=by
 refine F.okJ sc__law_sums (fun vs H Q E h=>?_) (fun cdv f A outer s H vs Q E hr h=>?_)
 ·obtain ⟨a,y,us,rss,ys,rfl,_⟩:=h
  rfl
 ·obtain ⟨a,y,us,rss,ys,rfl,ha,hI,hy,hl,hl2,hs,k⟩:=h
  refine ⟨_,(jb_one (js_ret (j_comp (N:=["_law_row_here", "_law_one"]) (src:=[none,some 1]) (ji_tup K (jv 0)) (by show capOk _ _=true; rfl) (by rfl) (by rfl)
 (fun _ _ _ _ _=>(jg_name (i:=0) (show (["_law_row_here", "_law_one"]:List Str).Nodup by decide +kernel) rfl (Or.inl rfl))) (fun _ _ _ _ _=>jf_nil) (fun _ _ _ _ _=>(jc_sum K rfl T.b_sum (ja_cons (j_comp (N:=["_law_number", "_law_have"]) (src:=[none,none]) (ji_zip K rfl T.b_zip (ja_cons (jv 0) (ja_cons (jv 1) ja_nil))) (by show capOk _ _=true; rfl) (by rfl) (by rfl)
 (fun _ _ _ _ _=>(jg_tup K 2 (jgs_cons (jg_name (i:=0) (show (["_law_number", "_law_have"]:List Str).Nodup by decide +kernel) rfl (Or.inl rfl)) (jgs_cons (jg_name (i:=1) (show (["_law_number", "_law_have"]:List Str).Nodup by decide +kernel) rfl (Or.inl rfl)) jgs_nil)))) (fun _ _ _ _ _=>jf_nil) (fun _ _ _ _ _=>(j_mul (jv 0) (jv 1)))) ja_nil)))))),?_⟩
  refine ⟨_,rfl,a,rfl,⟨_,SqT.of ha⟩,?_⟩
  refine tup_its (caps:=[some y]) (fun r=>V.int (dot r ys)) hl (fun H' s=>SqT.of (s _ _ ha)) hI rfl (fun v r H1 Q1 hr hv s1 q=>?_) fun H1 p s hp=>?_
  ·obtain ⟨va,rfl,hva⟩:=hv
   obtain ⟨ya,rfl,hya⟩:=hy.same s1
   refine ⟨_,rfl,_,rfl,true,true,va,ya,rfl,⟨_,SqT.of hva⟩,⟨_,SqT.of hya⟩,?_⟩
   refine zip_intsM (caps:=[]) (fun x y=>V.int (x*y)) (hl2 r hr) (fun H' s=>⟨sqt (s _ _ hva),sqt (s _ _ hya)⟩) rfl (fun x y H1 Q1 _ hy _ q=>⟨_,rfl,_,rfl,_,_,rfl,rfl,.inr (hs y hy),q⟩) fun H2 p s hp=>?_
   rw [zip_map (fun x y=>x*y) V.int]
   exact ⟨false,p,_,rfl,SqL.of upd_same,q _ (s.upd hp)⟩
  ·rw [show (rss.map fun r=>V.int (dot r ys))=(rss.map fun r=>dot r ys).map V.int by rw [List.map_map]; rfl]
   exact k _ _ (s.upd hp) upd_same
theorem flat_repV (n:Nat) (v:V):(List.replicate n [v]).flatten=List.replicate n v:=by
 induction n with
 | zero=>rfl
 | succ n ih=>rw [List.replicate_succ,List.flatten_cons,ih,List.replicate_succ]; rfl
inductive IspFree (vs:List V) (H:Hp) (Q:VK) (E:XK):Prop
 | mk (n:Int) (_:vs=[.int n]) (_:1≤n) (_:n≤1000) (_:∀ p H',Same H H'→H' p=some (.tup ((List.replicate n.toNat (none:Option Int)).map cV))→Q (.ref p) H'):IspFree  vs H Q E
def spFree:Sp:=fun vs H Q E=>IspFree  vs H Q E
theorem sc_free:FnScope ["width"] ["width"] (defScope s_free):=⟨rfl,rfl,rfl,by decide +kernel,rfl,by decide +kernel,by decide +kernel⟩
theorem ok_free (F:FunAt K mg "free" s_free ["width"]):Ok P w K mg base "free" 1 ["width"] spFree:=by
 refine F.okJ sc_free (fun vs H Q E h=>?_) (fun cdv f A outer s H vs Q E hr h=>?_)
 ·obtain ⟨n,rfl,_⟩:=h
  rfl
 ·obtain ⟨n,rfl,h1,h2,k⟩:=h
  refine ⟨_,(jb_one (js_ret (j_repT (j_tup (ja_cons j_non ja_nil)) (jv 0)))),?_⟩
  have hz:(1000:Nat)≤sizeLine:=by rw [sizeLine_eq]; decide
  refine ⟨by show 1≤sizeLine; omega,fun p hp=>⟨_,rfl,p,[.non],n,rfl,rfl,upd_same,by simp,h1,?_,fun q H' s e=>?_⟩⟩
  ·show (1:Int)*n≤_
   omega
  ·rw [flat_repV] at e
   exact k _ _ (((Same.refl H).upd hp).trans s) (by rw [e,List.map_replicate]; rfl)
structure Ry (H:Hp) (ra:Addr) (us:List V) (rss:LLI) (n:Nat):Prop where
 e:H ra=some (.tup us)
 I:Its H us rss
 l:us.length≤3
 R:∀ r∈rss,r.length=n∧Bd 1000 r
theorem Ry.same {H H':Hp} {ra:Addr} {us:List V} {rss:LLI} {n:Nat} (h:Ry H ra us rss n) (s:Same H H'):Ry H' ra us rss n:=⟨s _ _ h.e,h.I.same s,h.l,h.R⟩
def Vn (n:Nat) (B:Int) (tss:LLI):Prop:=∀ v∈tss,v.length=n∧∀ x∈v,0≤x∧x≤B
theorem wk_small {rss:LLI} {cs:List (Option Int)} {F W:LLI} {k:Nat} (h:Wk rss cs F W [] k) (hW:W.length≤150):Vn cs.length 200 F:=fun v hv=>by
 obtain ⟨i1,i2,i3,i4,i5,i6,i7,i8⟩:=h.lv
 obtain ⟨i,q1,q2,lv⟩:=i2 v (i3 v hv).1
 refine ⟨lv.len,fun x hx=>⟨lv.nn x hx,?_⟩⟩
 have:=nn_of lv.nn x hx
 rw [lv.sum] at this
 omega
inductive IspUnbound (vs:List V) (H:Hp) (Q:VK) (E:XK):Prop
 | mk (ra:Addr) (us:List V) (rss:LLI) (n:Nat) (wi:Int) (_:vs=[.ref ra,.int wi]) (_:wi=n) (_:Ry H ra us rss n) (_:1≤n) (_:n≤7) (_:(∀ H',Same H H'→Q .non H')) (_:∀ (t:Addr) (zs:List V) (tss:LLI) (H':Hp),Same H H'→H' t=some (.tup zs)→Its H' zs tss→tss.length≤150→Vn n 200 tss→(∀ v,v∈tss↔Least rss (List.replicate n none) v)→Q (.ref t) H'):IspUnbound  vs H Q E
def spUnbound:Sp:=fun vs H Q E=>IspUnbound  vs H Q E
theorem sm_of {r:List Int} (h:Bd 1000 r):Sm r:=fun z hz=>by have:=h z hz; omega
theorem sc__law_unbound:FnScope ["_law_rows", "_law_width", "_law_told"] ["_law_rows", "_law_width"] (defScope s__law_unbound):=⟨rfl,rfl,rfl,by decide +kernel,rfl,by decide +kernel,by decide +kernel⟩
theorem ok_unbound {D_TooMany:Addr} (F':FunAt K mg "_law_unbound" s__law_unbound ["_law_rows", "_law_width"]) (T:Tx mg) (O_free:Ok P w K mg base "free" 1 ["width"] spFree) (OX_least:OkE P w K mg base "least" 7 ["rows", "caps", "most"] (spLeast D_TooMany)) (M_TooMany:mg "TooMany" = some (.ref D_TooMany)) (X_TooMany:ClsX K D_TooMany []):Ok P w K mg base "_law_unbound" 8 ["_law_rows", "_law_width"] spUnbound:=by
 refine F'.okJ sc__law_unbound (fun vs H Q E h=>?_) (fun cdv f A outer s H vs Q E hr h=>?_)
 ·obtain ⟨ra,us,rss,n,wi,rfl,_⟩:=h
  rfl
 ·obtain ⟨ra,us,rss,n,_,rfl,rfl,hR,n1,n7,kn,kq⟩:=h
  refine ⟨_,(jb_cons (js_set (i:=2) sc__law_unbound.nd rfl (Or.inl rfl) j_non)
 (jb_cons (js_tryNo K (jx_setIx K (i:=2) OX_least (hr.mono (by omega)) rfl sc__law_unbound.nd rfl (Or.inl rfl) (ja_cons (jv 0) (ja_cons (j_call O_free (hr.mono (by omega)) rfl (ja_cons (jv 1) ja_nil)) (ja_cons j_int ja_nil)))) rfl M_TooMany X_TooMany (fun _=>(jb_one (js_set (i:=2) sc__law_unbound.nd rfl (Or.inl rfl) j_non))))
 (jb_one (js_ret (jv 2))))),?_⟩
  refine ⟨_,rfl,_,rfl,_,rfl,by omega,by omega,fun ca H1 s1 hca=>?_⟩
  rw [Int.toNat_natCast] at hca
  have hl:(List.replicate n (none:Option Int)).length=n:=List.length_replicate
  have Y:SyAt H1 ra ca rss (List.replicate n none):=⟨⟨us,s1 _ _ hR.e,hR.I.same s1,by have:=hR.l; omega⟩,hca,by omega,by omega,fun r hr'=>by rw [hl]; exact ⟨(hR.R r hr').1,sm_of (hR.R r hr').2⟩⟩
  refine ⟨ra,ca,rss,_,150,150,rfl,rfl,Y,by rw [hl]; omega,fun q t pp zs tss ws Fl W k H' s' hq ht hI hpm hri hpp hIW hW hlen=>?_,fun H' s' _=>⟨D_TooMany,rfl,rfl,fun p hp=>?_⟩⟩
  ·refine ⟨q,_,0,_,rfl,rfl,SqT.of hq,rfl,_,rfl,?_⟩
   have hlv:=hW.lv
   have hV:=wk_small hW hlen
   rw [hl] at hV
   exact kq t zs tss H' (s1.trans s') ht hI (by rw [hpm.length_eq]; omega) (fun v hv=>hV v (hpm.mem_iff.mp hv)) fun v=>hpm.mem_iff.trans (hW.least (fun r hr'=>(Y.hR r hr').1) v)
  ·exact ⟨_,rfl,kn _ ((s1.trans s').upd hp)⟩
end
theorem nd_le {α:Type} [DecidableEq α]:∀ (a b:List α),a.Nodup→(∀ x∈a,x∈b)→a.length≤b.length
 | [],b,_,_=>Nat.zero_le _
 | x::a,b,hn,h=>by
  obtain ⟨h1,h2⟩:=List.nodup_cons.mp hn
  have hx:=h x List.mem_cons_self
  have:=nd_le a (b.erase x) h2 fun y hy=>(List.mem_erase_of_ne (fun z:y=x=>h1 (z ▸ hy))).mpr (h y (List.mem_cons_of_mem _ hy))
  rw [List.length_erase_of_mem hx] at this
  have:=List.length_pos_of_mem hx
  rw [List.length_cons]
  omega
noncomputable def extL (c:Int) (one:List Int):LLI:=(List.range (c+1).toNat).map fun (k:Nat)=>one++[(k:Int)]
noncomputable def boxL (cs:List Int):LLI:=cs.foldl (fun found c=>found.flatMap (extL c)) [[]]
theorem boxL_take {cs:List Int} {i:Nat} (hi:i < cs.length):boxL (cs.take (i+1))=(boxL (cs.take i)).flatMap (extL cs[i]):=by
 unfold boxL
 rw [List.take_add_one,List.getElem?_eq_getElem hi,List.foldl_append]
 rfl
theorem flat_len (c:Int):∀ l:LLI,(l.flatMap (extL c)).length=l.length*(c+1).toNat
 | []=>by simp
 | x::l=>by
  rw [List.flatMap_cons,List.length_append,flat_len c l,List.length_cons,Nat.add_mul,Nat.one_mul]
  unfold extL
  rw [List.length_map,List.length_range]
  omega
theorem boxL_len {cs:List Int} {m:Nat} (h:∀ c∈cs,0≤c∧c < m):∀ i,i≤cs.length→(boxL (cs.take i)).length≤m ^ i
 | 0,_=>by simp [boxL]
 | i+1,hi=>by
  rw [boxL_take (by omega),flat_len,Nat.pow_succ]
  have:=h cs[i] (List.getElem_mem _)
  exact Nat.mul_le_mul (boxL_len h i (by omega)) (by omega)
theorem split_last {v:List Int} {n:Nat} (h:v.length=n+1):v=v.take n++[v.getD n 0]:=by
 refine List.ext_getElem? fun j=>?_
 rw [List.getElem?_append,List.length_take,Nat.min_eq_left (by omega)]
 split
 ·rw [List.getElem?_take,if_pos (by assumption)]
 ·by_cases e:j=n
  ·subst e
   rw [Nat.sub_self,List.getD_eq_getElem?_getD,List.getElem?_eq_getElem (by omega)]
   rfl
  ·rw [List.getElem?_eq_none (by omega),List.getElem?_eq_none (by simp; omega)]
theorem boxL_mem {cs:List Int}:∀ i,i≤cs.length→∀ v,v∈boxL (cs.take i)↔v.length=i∧∀ j,j < i→0≤v.getD j 0∧v.getD j 0≤cs.getD j 0
 | 0,_,v=>by
  rw [List.take_zero]
  show v∈[[]]↔_
  rw [List.mem_singleton]
  exact ⟨fun e=>⟨by rw [e]; rfl,fun j hj=>absurd hj (by omega)⟩,fun h=>List.length_eq_zero_iff.mp h.1⟩
 | i+1,hi,v=>by
  have hc:cs.getD i 0=cs[i]:=by rw [List.getD_eq_getElem?_getD,List.getElem?_eq_getElem (by omega)]; rfl
  rw [boxL_take (by omega),List.mem_flatMap]
  constructor
  ·rintro ⟨one,ho,hv⟩
   obtain ⟨h1,h2⟩:=(boxL_mem i (by omega) one).mp ho
   obtain ⟨k,hk,rfl⟩:=List.mem_map.mp hv
   have hk:=List.mem_range.mp hk
   refine ⟨by simp [h1],fun j hj=>?_⟩
   rw [List.getD_eq_getElem?_getD,List.getElem?_append]
   by_cases e:j < one.length
   ·rw [if_pos e,← List.getD_eq_getElem?_getD]
    exact h2 j (by omega)
   ·have:j=i:=by omega
    subst this
    rw [if_neg e,show j - one.length=0 by omega,hc]
    show 0≤(k:Int)∧(k:Int)≤_
    omega
  ·rintro ⟨h1,h2⟩
   obtain ⟨g1,g2⟩:=h2 i (by omega)
   refine ⟨v.take i,(boxL_mem i (by omega) _).mpr ⟨by rw [List.length_take]; omega,fun j hj=>?_⟩,List.mem_map.mpr ⟨(v.getD i 0).toNat,List.mem_range.mpr (by rw [hc] at g2; omega),?_⟩⟩
   ·rw [List.getD_eq_getElem?_getD,List.getElem?_take,if_pos hj,← List.getD_eq_getElem?_getD]
    exact h2 j (by omega)
   ·rw [Int.toNat_of_nonneg g1]
    exact (split_last h1).symm
theorem nn_of_getD {v:List Int} (h:∀ j,j < v.length→0≤v.getD j 0):∀ x∈v,0≤x:=fun x hx=>by
 obtain ⟨j,hj,rfl⟩:=List.mem_iff_getElem.mp hx
 have:=h j hj
 rwa [List.getD_eq_getElem?_getD,List.getElem?_eq_getElem hj] at this
theorem box_iff {cs:List Int} {v:List Int}:v∈boxL cs↔v.length=cs.length∧(∀ x∈v,0≤x)∧Wi (cs.map some) v=true:=by
 have:=boxL_mem (cs:=cs) cs.length (Nat.le_refl _) v
 rw [List.take_length] at this
 rw [this]
 refine ⟨fun ⟨h1,h2⟩=>⟨h1,nn_of_getD fun j hj=>(h2 j (by omega)).1,(wi_iff (by rw [List.length_map]; exact h1)).mpr fun j hj=>?_⟩,fun ⟨h1,h2,h3⟩=>⟨h1,fun j hj=>⟨nn_at h2 j,?_⟩⟩⟩
 ·rw [List.length_map] at hj
  rw [List.getD_eq_getElem?_getD,List.getElem?_map,List.getElem?_eq_getElem hj]
  have:=(h2 j hj).2
  rw [List.getD_eq_getElem?_getD (l:=cs),List.getElem?_eq_getElem hj] at this
  exact decide_eq_true this
 ·have:=(wi_iff (by rw [List.length_map]; exact h1)).mp h3 j (by rw [List.length_map]; exact hj)
  rw [List.getD_eq_getElem?_getD,List.getElem?_map,List.getElem?_eq_getElem hj] at this
  rw [List.getD_eq_getElem?_getD (l:=cs),List.getElem?_eq_getElem hj]
  exact of_decide_eq_true this
theorem wi_nx {rss:LLI} {cs:List (Option Int)} {F:LLI} {u v:List Int} (hl:u.length=cs.length) (hu:Wi cs u=true) (h:IsNx rss cs F u v):Wi cs v=true:=by
 obtain ⟨j,hj,rfl,_⟩:=h
 obtain ⟨h1,_,h3⟩:=stp_lt hj
 rw [wi_iff (by rw [bump_len]; exact hl)]
 intro k hk
 have h4:=(wi_iff hl).mp hu k hk
 rw [bump_at _ _ _ h1]
 by_cases e:k=j
 ·subst e
  rw [if_pos rfl]
  cases e:cs.getD k none with
  | none=>rfl
  | some c =>
   rw [e] at h3
   have:u.getD k 0 < c:=of_decide_eq_true h3
   exact decide_eq_true (by omega)
 ·rw [if_neg e]
  exact h4
theorem Wk.wi {rss:LLI} {cs:List (Option Int)} {F W L:LLI} {k:Nat} (hR:∀ r∈rss,r.length=cs.length) (h:Wk rss cs F W L k):∀ v∈W,Wi cs v=true:=by
 induction h with
 | @one L ri nd h=>exact ((Wk.one ri nd h).ok hR).wi
 | @more F W L L' k h ne ri nd hm ih =>
  intro v hv
  rcases List.mem_append.mp hv with z | z
  ·exact ih v z
  ·exact ((Wk.more h ne ri nd hm).ok hR).wi v z
def addv (u t:List Int):List Int:=List.zipWith (fun a b=>a+b) u t
def addk (u:List Int) (k:Nat) (t:List Int):List Int:=List.zipWith (fun a b=>a+(k:Int)*b) u t
theorem addv_len {u t:List Int} (h:u.length=t.length):(addv u t).length=u.length:=by unfold addv; rw [List.length_zipWith]; omega
theorem addk_len {u t:List Int} {k:Nat} (h:u.length=t.length):(addk u k t).length=u.length:=by unfold addk; rw [List.length_zipWith]; omega
theorem zip_at {g:Int→Int→Int} {u t:List Int} (h:u.length=t.length) (h0:g 0 0=0) (j:Nat):(List.zipWith g u t).getD j 0=g (u.getD j 0) (t.getD j 0):=by
 rw [List.getD_eq_getElem?_getD,List.getD_eq_getElem?_getD,List.getD_eq_getElem?_getD,List.getElem?_zipWith]
 by_cases hj:j < u.length
 ·rw [List.getElem?_eq_getElem hj,List.getElem?_eq_getElem (by omega)]
  rfl
 ·rw [List.getElem?_eq_none (by omega),List.getElem?_eq_none (by omega)]
  exact h0.symm
theorem addv_at {u t:List Int} (h:u.length=t.length) (j:Nat):(addv u t).getD j 0=u.getD j 0+t.getD j 0:=zip_at h rfl j
theorem addk_at {u t:List Int} {k:Nat} (h:u.length=t.length) (j:Nat):(addk u k t).getD j 0=u.getD j 0+(k:Int)*t.getD j 0:=zip_at (g:=fun a b=>a+(k:Int)*b) h (by simp) j
theorem ext_at {u v:List Int} (h:u.length=v.length) (hj:∀ j,j < u.length→u.getD j 0=v.getD j 0):u=v:=by
 refine List.ext_getElem h fun j h1 h2=>?_
 have:=hj j h1
 rw [List.getD_eq_getElem?_getD,List.getD_eq_getElem?_getD,List.getElem?_eq_getElem h1,List.getElem?_eq_getElem h2] at this
 exact this
theorem addk_zero {u t:List Int} (h:u.length=t.length):addk u 0 t=u:=ext_at (addk_len h) fun j _=>by rw [addk_at h]; simp
theorem addk_succ {u t:List Int} {k:Nat} (h:u.length=t.length):addk u (k+1) t=addv (addk u k t) t:=ext_at (by rw [addk_len h,addv_len (by rw [addk_len h]; exact h),addk_len h]) fun j _=>by
 rw [addk_at h,addv_at (by rw [addk_len h]; exact h),addk_at h,Int.natCast_succ,Int.add_mul]
 omega
def Nv (n:Nat) (v:List Int):Prop:=v.length=n∧∀ x∈v,0≤x
theorem Nv.at_ {n:Nat} {v:List Int} (h:Nv n v) (j:Nat):0≤v.getD j 0:=nn_at h.2 j
theorem nv_of {n:Nat} {v:List Int} (hl:v.length=n) (h:∀ j,j < n→0≤v.getD j 0):Nv n v:=by
 refine ⟨hl,fun x hx=>?_⟩
 obtain ⟨i,hi,rfl⟩:=List.mem_iff_getElem.mp hx
 have:=h i (by omega)
 rwa [List.getD_eq_getElem?_getD,List.getElem?_eq_getElem hi] at this
theorem Nv.add {n:Nat} {u t:List Int} (hu:Nv n u) (ht:Nv n t):Nv n (addv u t):=nv_of (by rw [addv_len (by rw [hu.1,ht.1]),hu.1]) fun j _=>by
 rw [addv_at (by rw [hu.1,ht.1])]
 have:=hu.at_ j
 have:=ht.at_ j
 omega
theorem Nv.addk {n k:Nat} {u t:List Int} (hu:Nv n u) (ht:Nv n t):Nv n (addk u k t):=nv_of (by rw [addk_len (by rw [hu.1,ht.1]),hu.1]) fun j _=>by
 rw [addk_at (by rw [hu.1,ht.1])]
 have:=hu.at_ j
 have:=Int.mul_nonneg (Int.natCast_nonneg k) (ht.at_ j)
 omega
theorem under_addk {n k:Nat} {u t:List Int} (hu:Nv n u) (ht:Nv n t):Under u (addk u k t):=⟨by rw [addk_len (by rw [hu.1,ht.1])],fun j _=>by
 rw [addk_at (by rw [hu.1,ht.1])]
 have:=Int.mul_nonneg (Int.natCast_nonneg k) (ht.at_ j)
 omega⟩
theorem under_add {n:Nat} {u t:List Int} (hu:Nv n u) (ht:Nv n t):Under u (addv u t):=⟨by rw [addv_len (by rw [hu.1,ht.1])],fun j _=>by
 rw [addv_at (by rw [hu.1,ht.1])]
 have:=ht.at_ j
 omega⟩
inductive SumOf (n:Nat):LLI→List Int→Prop
 | nil:SumOf n [] (List.replicate n 0)
 | snoc {tss:LLI} {u t:List Int} (k:Nat) (h:SumOf n tss u):SumOf n (tss++[t]) (addk u k t)
theorem nv_zero (n:Nat):Nv n (List.replicate n 0):=⟨List.length_replicate,fun x hx=>by rw [(List.mem_replicate.mp hx).2]; omega⟩
theorem SumOf.inv0 {n:Nat} {v:List Int} (h:SumOf n [] v):v=List.replicate n 0:=by
 generalize e:([]:LLI)=l at h
 cases h with
 | nil=>rfl
 | snoc k h=>simp at e
theorem SumOf.inv {n:Nat} {tss:LLI} {t v:List Int} (h:SumOf n (tss++[t]) v):∃ u k,SumOf n tss u∧v=addk u k t:=by
 generalize e:tss++[t]=l at h
 cases h with
 | nil=>simp at e
 | snoc k h =>
  obtain ⟨rfl,e2⟩:=List.append_inj' e rfl
  cases e2
  exact ⟨_,k,h,rfl⟩
theorem SumOf.nv {n:Nat} {tss:LLI} {v:List Int} (h:SumOf n tss v) (ht:∀ t∈tss,Nv n t):Nv n v:=by
 induction h with
 | nil=>exact nv_zero n
 | snoc k h ih=>exact (ih fun t z=>ht t (List.mem_append_left _ z)).addk (ht _ (by simp))
theorem SumOf.more {n:Nat} {tss:LLI} {v a:List Int} (h:SumOf n tss v) (ht:∀ t∈tss,Nv n t) (ha:a∈tss):SumOf n tss (addv v a):=by
 induction h with
 | nil=>cases ha
 | @snoc tss u t k h ih =>
  have ht':∀ x∈tss,Nv n x:=fun x z=>ht x (List.mem_append_left _ z)
  have hu:=h.nv ht'
  have htt:=ht t (by simp)
  by_cases e:a=t
  ·subst e
   rw [← addk_succ (by rw [hu.1,htt.1])]
   exact .snoc _ h
  ·have ha':a∈tss:=by
    rcases List.mem_append.mp ha with z | z
    ·exact z
    ·exact absurd (List.mem_singleton.mp z) e
   have hna:=ht' a ha'
   have:addv (addk u k t) a=addk (addv u a) k t:=by
    have l1:u.length=t.length:=by rw [hu.1,htt.1]
    have l2:u.length=a.length:=by rw [hu.1,hna.1]
    refine ext_at (by rw [addv_len (by rw [addk_len l1]; exact l2),addk_len l1,addk_len (by rw [addv_len l2]; exact l1),addv_len l2]) fun j _=>?_
    rw [addv_at (by rw [addk_len l1]; exact l2),addk_at l1,addk_at (by rw [addv_len l2]; exact l1),addv_at l2]
    omega
   rw [this]
   exact .snoc k (ih ht' ha')
theorem SumOf.zeroN {n:Nat}:∀ (m:Nat) (tss:LLI),tss.length=m→(∀ t∈tss,Nv n t)→SumOf n tss (List.replicate n 0)
 | 0,tss,h,_=>by
  rw [List.length_eq_zero_iff.mp h]
  exact .nil
 | m+1,tss,h,ht=>by
  have hne:tss≠[]:=fun z=>by rw [z] at h; cases h
  have e:=List.dropLast_concat_getLast hne
  have h1:=SumOf.zeroN m tss.dropLast (by rw [List.length_dropLast]; omega) fun x z=>ht x ((List.dropLast_sublist tss).subset z)
  have h2:=SumOf.snoc (t:=tss.getLast hne) 0 h1
  rw [addk_zero (by rw [List.length_replicate,(ht _ (List.getLast_mem hne)).1]),e] at h2
  exact h2
theorem SumOf.zero {n:Nat} {tss:LLI} (ht:∀ t∈tss,Nv n t):SumOf n tss (List.replicate n 0):=SumOf.zeroN _ tss rfl ht
theorem dot_addv:∀ {r u t:List Int},u.length=t.length→dot r (addv u t)=dot r u+dot r t
 | [],_,_,_=>by simp [dot]
 | _::_,[],[],_=>by simp [dot,addv]
 | a::r,x::u,y::t,h=>by
  have ih:=dot_addv (r:=r) (u:=u) (t:=t) (by simpa using h)
  unfold addv at ih ⊢
  rw [List.zipWith_cons_cons,dot_cons,dot_cons,dot_cons,ih,Int.mul_add]
  omega
theorem ans_iff {rss:LLI} {v:List Int}:Ans rss v=true↔∀ r∈rss,dot r v=0:=by
 unfold Ans
 rw [List.all_eq_true]
 exact ⟨fun h r hr=>of_decide_eq_true (h r hr),fun h r hr=>decide_eq_true (h r hr)⟩
theorem SumOf.ans {n:Nat} {rss tss:LLI} {v:List Int} (h:SumOf n tss v) (ht:∀ t∈tss,Nv n t∧Ans rss t=true):Ans rss v=true:=by
 induction h with
 | nil=>exact ans_iff.mpr fun r _=>dot_zero r n
 | @snoc tss u t k h ih =>
  have ht':∀ x∈tss,Nv n x∧Ans rss x=true:=fun x z=>ht x (List.mem_append_left _ z)
  have hu:=h.nv fun x z=>(ht' x z).1
  obtain ⟨htn,hta⟩:=ht t (by simp)
  have ih:=ih ht'
  have hl:u.length=t.length:=by rw [hu.1,htn.1]
  clear h
  induction k with
  | zero=>rw [addk_zero hl]; exact ih
  | succ k ihk =>
   rw [addk_succ hl]
   rw [ans_iff] at ihk hta ⊢
   intro r hr
   rw [dot_addv (by rw [addk_len hl]; exact hl),ihk r hr,hta r hr]
   rfl
theorem sum_zero {n:Nat} {v:List Int} (h:Nv n v) (hs:¬ 0 < v.sum):v=List.replicate n 0:=by
 refine List.eq_replicate_iff.mpr ⟨h.1,fun x hx=>?_⟩
 have h1:=h.2 x hx
 have h2:=nn_of h.2 x hx
 omega
theorem sum_of_ans {rss tss:LLI} {cs:List (Option Int)} (hR:∀ r∈rss,r.length=cs.length) (hL:∀ v,v∈tss↔Least rss cs v):∀ (m:Nat) (v:List Int),v.sum≤m→Nv cs.length v→Ans rss v=true→Wi cs v=true→SumOf cs.length tss v:=by
 have ht:∀ t∈tss,Nv cs.length t:=fun t z=>⟨((hL t).mp z).an.len,((hL t).mp z).an.nn⟩
 intro m
 induction m with
 | zero =>
  intro v hm hv _ _
  rw [sum_zero hv (by omega)]
  exact SumOf.zero ht
 | succ m ih =>
  intro v hm hv ha hw
  by_cases hs:0 < v.sum
  ·obtain ⟨a,hla,hU⟩:=exists_least (rss:=rss) (cs:=cs) v.sum.toNat (by omega) ⟨hv.1,hv.2,ha,hs⟩ hw
   have hna:Nv cs.length a:=⟨hla.an.len,hla.an.nn⟩
   have hl:v.length=a.length:=by rw [hv.1,hna.1]
   have hd:∀ j,(List.zipWith (fun x y=>x - y) v a).getD j 0=v.getD j 0 - a.getD j 0:=fun j=>zip_at (g:=fun x y=>x - y) hl rfl j
   have hdl:(List.zipWith (fun x y:Int=>x - y) v a).length=cs.length:=by rw [List.length_zipWith,← hl,Nat.min_self,hv.1]
   have hdn:Nv cs.length (List.zipWith (fun x y=>x - y) v a):=nv_of hdl fun j hj=>by
    rw [hd]
    have:=hU.2 j (by rw [hv.1]; exact hj)
    omega
   have e:v=addv (List.zipWith (fun x y=>x - y) v a) a:=ext_at (by rw [addv_len (by rw [hdl,hna.1]),hdl,hv.1]) fun j _=>by
    rw [addv_at (by rw [hdl,hna.1]),hd]
    omega
   have hUd:Under (List.zipWith (fun x y=>x - y) v a) v:=by
    have:=under_add hdn hna
    rwa [← e] at this
   have hda:Ans rss (List.zipWith (fun x y=>x - y) v a)=true:=by
    rw [ans_iff]
    intro r hr
    have h1:=ans_iff.mp ha r hr
    rw [e,dot_addv (by rw [hdl,hna.1]),ans_iff.mp hla.an.ans r hr] at h1
    omega
   have hne:List.zipWith (fun x y=>x - y) v a≠v:=fun z=>by
    obtain ⟨j,j1,j2⟩:=pos_at hla.an.nn hla.an.pos
    have:=hd j
    rw [z] at this
    omega
   have hlt:=hUd.sum.2 hne
   have:=ih _ (by omega) hdn hda (wi_mono hv.1 hw hUd)
   rw [e]
   exact this.more ht ((hL a).mpr hla)
  ·rw [sum_zero hv hs]
   exact SumOf.zero ht
end K26
namespace K26
open PySem PySem.Spec PyProof.Rows L2
section
variable {P:Program} {w:World} {K:PySem.W.Frag} {mg:Str→Option Value} {base:Heap}
inductive IspZip (g:Int→Int→Int) (vs:List V) (H:Hp) (Q:VK) (E:XK):Prop
 | mk (x:_) (y:_) (xs:_) (ys:_) (_:vs=[x,y]) (_:IT H x xs) (_:IT H y ys) (_:xs.length≤1000) (_:∀ v H',Same H H'→IT H' v (List.zipWith g xs ys)→Q v H'):IspZip g vs H Q E
def spZip (g:Int→Int→Int):Sp:=fun vs H Q E=>IspZip g vs H Q E
theorem sc_plus:FnScope ["one", "other"] ["one", "other"] (defScope s_plus):=⟨rfl,rfl,rfl,by decide +kernel,rfl,by decide +kernel,by decide +kernel⟩
theorem ok_plus (F:FunAt K mg "plus" s_plus ["one", "other"]) (T:Tx mg):Ok P w K mg base "plus" 1 ["one", "other"] (spZip fun a b=>a+b):=by
 refine F.okJ sc_plus (fun vs H Q E h=>?_) (fun cdv f A outer s H vs Q E hr h=>?_)
 ·obtain ⟨x,y,xs,ys,rfl,_⟩:=h
  rfl
 ·obtain ⟨_,_,xs,ys,rfl,⟨a,rfl,ha⟩,⟨b,rfl,hb⟩,hl,k⟩:=h
  refine ⟨_,(jb_one (js_ret (jc_tuple K rfl T.b_tuple (ja_cons (j_comp (N:=["a", "b"]) (src:=[none,none]) (ji_zip K rfl T.b_zip (ja_cons (jv 0) (ja_cons (jv 1) ja_nil))) (by show capOk _ _=true; rfl) (by rfl) (by rfl)
 (fun _ _ _ _ _=>(jg_tup K 2 (jgs_cons (jg_name (i:=0) (show (["a", "b"]:List Str).Nodup by decide +kernel) rfl (Or.inl rfl)) (jgs_cons (jg_name (i:=1) (show (["a", "b"]:List Str).Nodup by decide +kernel) rfl (Or.inl rfl)) jgs_nil)))) (fun _ _ _ _ _=>jf_nil) (fun _ _ _ _ _=>(j_add (jv 0) (jv 1)))) ja_nil)))),?_⟩
  refine ⟨_,rfl,_,rfl,true,true,a,b,rfl,⟨_,SqT.of ha⟩,⟨_,SqT.of hb⟩,?_⟩
  refine zip_ints (caps:=[]) (fun x y=>V.int (x+y)) (sqt ha) (sqt hb) hl (fun H' s=>⟨sqt (s _ _ ha),sqt (s _ _ hb)⟩) rfl (fun x y H1 Q1 _ q=>⟨_,rfl,_,rfl,_,_,rfl,rfl,q⟩) fun H1 p s hp=>?_
  rw [zip_map (fun x y=>x+y) V.int]
  refine ⟨p,_,rfl,.inl ⟨SqL.of upd_same,fun l hl=>?_⟩⟩
  exact k _ _ ((s.upd hp).upd hl) ⟨l,rfl,upd_same⟩
structure Fnd (cs:List (Option Int)) (most:Nat) (mss:LLI):Prop where
 nd:mss.Nodup
 nv:∀ v∈mss,Nv cs.length v∧Wi cs v=true
def Fits (cs:List (Option Int)) (most:Nat):Prop:=∀ l:LLI,l.Nodup→(∀ v∈l,Nv cs.length v∧Wi cs v=true)→l.length≤most
structure Dk (H:Hp) (d:Addr) (mss:LLI):Prop where
 ex:∃ kvs,H d=some (.dT kvs)∧kvs.map (·.1)=IK mss
theorem Dk.same {H H':Hp} {d:Addr} {mss:LLI} (h:Dk H d mss) (s:Same H H'):Dk H' d mss:=let ⟨kvs,h1,h2⟩:=h.ex; ⟨kvs,s _ _ h1,h2⟩
inductive IspGrow (vs:List V) (H:Hp) (Q:VK) (E:XK):Prop
 | mk (d:Addr) (x:V) (c:Addr) (mi:Int) (most:Nat) (mss:LLI) (r:List Int) (cs:List (Option Int)) (_:vs=[.ref d,x,.ref c,.int mi]) (_:mi=most) (_:Dk H d mss) (_:Fnd cs most mss) (_:Fits cs most) (_:IT H x r) (_:Nv cs.length r) (_:0 < r.sum) (_:H c=some (.tup (cs.map cV))) (_:cs.length≤100) (_:most≤100000) (_:∀ mss' H',Dk H' d mss'→Fnd cs most mss'→(∀ v,v∈mss'↔∃ u∈mss,∃ k,v=addk u k r∧Wi cs v=true)→Off [d] H H'→Q .non H'):IspGrow  vs H Q E
def spGrow:Sp:=fun vs H Q E=>IspGrow  vs H Q E
theorem sc_grow:FnScope ["found", "one", "caps", "most", "start", "more"] ["found", "one", "caps", "most"] (defScope s_grow):=⟨rfl,rfl,rfl,by decide +kernel,rfl,by decide +kernel,by decide +kernel⟩
theorem ok_grow (F':FunAt K mg "grow" s_grow ["found", "one", "caps", "most"]) (T:Tx mg) (O_plus:Ok P w K mg base "plus" 1 ["one", "other"] (spZip fun a b=>a+b)) (O_within:Ok P w K mg base "within" 1 ["caps", "one"] spWithin):Ok P w K mg base "grow" 2 ["found", "one", "caps", "most"] spGrow:=by
 refine F'.okJ sc_grow (fun vs H Q E h=>?_) (fun cdv f A outer s H vs Q E hr h=>?_)
 ·obtain ⟨d,x,c,mi,most,mss,r,cs,rfl,_⟩:=h
  rfl
 ·obtain ⟨d,_,c,_,most,mss,r,cs,rfl,rfl,hD,hF,hfit,⟨xa,rfl,hx⟩,hrn,hrs,hc,h100,hmost,k⟩:=h
  have hu:=hr.u60
  have hz:(300000:Nat)≤sizeLine:=by rw [sizeLine_eq]; decide
  obtain ⟨kvs,hd,hk⟩:=id hD.ex
  refine ⟨_,(jb_one (js_for (ji_list K (jc_listD rfl T.b_list (ja_cons (jv 0) ja_nil))) (jg_name (i:=4) sc_grow.nd rfl (Or.inl rfl))
 (jb_cons (js_set (i:=5) sc_grow.nd rfl (Or.inl rfl) (j_call O_plus (hr.mono (by omega)) rfl (ja_cons (jv 4) (ja_cons (jv 1) ja_nil))))
 (jb_one (js_while (jt_w (jw_and (jt_le (jc_lenT rfl T.b_len (ja_cons (jv 0) ja_nil)) (jv 3)) (jw_and (jt_dnotin hu (jv 5) (jv 0) (by with_unfolding_all rfl)) (jw_and1 (jt_tru K (j_call O_within (hr.mono (by omega)) rfl (ja_cons (jv 2) (ja_cons (jv 5) ja_nil))))))))
 (jb_cons (js_dput hu (jv 0) (jv 5) j_bl)
 (jb_one (js_set (i:=5) sc_grow.nd rfl (Or.inl rfl) (j_call O_plus (hr.mono (by omega)) rfl (ja_cons (jv 5) (ja_cons (jv 1) ja_nil))))))))))),?_⟩
  refine ⟨_,rfl,d,kvs,mss,rfl,hd,hk,fun l zs hl hIz=>?_⟩
  have s1:=(Same.refl H).upd (o:=.lst zs) hl
  have e1:upd H l (.lst zs) l=some (.lst zs):=upd_same
  have hI1:=hIz.same s1
  have hd1:=s1 _ _ hd
  have nld:l≠d:=(ne_of_none hd hl).symm
  generalize upd H l (.lst zs)=H1 at s1 e1 hI1 hd1
  refine ⟨l,rfl,⟨_,SqL.of e1⟩,?_⟩
  refine for_list (K:=K) (a:=l) (xs:=zs) (fun i σ H'=>Ex3 fun (o4 o5:Option V) (ms:LLI)=>An7 (σ=[some (.ref d),some (.ref xa),some (.ref c),some (.int most),o4,o5]) (Off [d] H1 H') (Dk H' d ms) (Fnd cs most ms) ((∀ v∈mss,v∈ms)) ((∀ v∈ms,∃ u∈mss,∃ k,v=addk u k r)) ((∀ v∈ms,v ∉ mss.drop i→Wi cs (addv v r)=true→addv v r∈ms)))
   ⟨none,none,mss,rfl,Off.refl _ _,⟨kvs,hd1,hk⟩,hF,(fun v hv=>hv),(fun v hv=>⟨v,hv,0,(addk_zero (by rw [(hF.nv v hv).1.1,hrn.1])).symm⟩),fun v hv hn=>absurd hv (by simpa using hn)⟩ (fun i σ H' _ h=>by obtain ⟨_,_,_,_,o',_⟩:=h; exact SqL.of (o' _ _ (by simpa using nld) e1)) ?_ ?_
  ·rintro i x σ H2 hxi ⟨o4,o5,ms,rfl,off2,D2,F2,h1,h2,h3⟩
   obtain ⟨u,hu1,hu2,hu3⟩:=hI1.mem hxi
   obtain ⟨ua,rfl,hua⟩:=hu3
   have tk2:∀ a xs,H1 a=some (HO.tup xs)→H2 a=some (.tup xs):=fun a xs e=>off2 a _ (by simpa using ne_of e hd1 (by intro z; cases z)) e
   have hun:=(hF.nv u hu1).1
   try dsimp only [gName,List.set]
   refine ⟨_,rfl,_,rfl,.ref ua,.ref xa,u,r,rfl,⟨ua,rfl,tk2 _ _ hua⟩,⟨xa,rfl,tk2 _ _ (s1 _ _ hx)⟩,by rw [hun.1]; omega,fun m3 H3 s3 hm3=>?_⟩
   try dsimp only [gName,List.set]
   have hdrop:mss.drop i=u::mss.drop (i+1):=by
    rw [List.drop_eq_getElem_cons (List.getElem?_eq_some_iff.mp hu2).1,(List.getElem?_eq_some_iff.mp hu2).2]
   refine ⟨fun m σ H'=>∃ (mv:V) (ms:LLI) (pv:List Int),m=most - ms.length∧σ=[some (.ref d),some (.ref xa),some (.ref c),some (.int most),some (.ref ua),some mv]∧Off [d] H1 H'∧Dk H' d ms∧Fnd cs most ms∧IT H' mv (addv pv r)∧pv∈ms∧(∀ v∈mss,v∈ms)∧(∀ v∈ms,∃ u∈mss,∃ k,v=addk u k r)∧(∀ v∈ms,v ∉ mss.drop (i+1)→v≠pv→Wi cs (addv v r)=true→addv v r∈ms),
    ⟨_,m3,ms,u,rfl,rfl,off2.trans s3.off,D2.same s3,F2,hm3,h1 u hu1,h1,h2,fun v hv hn hne hw=>h3 v hv (by rw [hdrop]; exact fun z=>(List.mem_cons.mp z).elim hne hn) hw⟩,?_⟩
   clear h1 h2 h3 F2 D2 off2 tk2 hm3 s3 hua
   rintro m σ H4 ⟨mv,ms,pv,rfl,rfl,off4,D4,F4,hmv,hpv,h1,h2,h3⟩
   obtain ⟨kv4,hd4,hk4⟩:=id D4.ex
   have hkl:=ik_len hk4
   have hlen:=hfit ms F4.nd F4.nv
   have hpn:=(F4.nv pv hpv).1
   obtain ⟨ma,rfl,hma⟩:=id hmv
   have done:(addv pv r∈ms∨Wi cs (addv pv r)=false)→∀ v∈ms,v ∉ mss.drop (i+1)→Wi cs (addv v r)=true→addv v r∈ms:=fun hor v hv hn hw=>by
    by_cases e:v=pv
    ·subst e
     rcases hor with z | z
     ·exact z
     ·rw [z] at hw; cases hw
    ·exact h3 v hv hn e hw
   refine ⟨_,rfl,d,kv4,rfl,hd4,_,rfl,_,_,rfl,rfl,_,rfl,?_⟩
   rw [show decide ((kv4.length:Int)≤(most:Int))=true from decide_eq_true (by omega)]
   refine iteT ⟨_,rfl,_,rfl,d,_,rfl,DGet.t hd4 (by rw [kv_int]; exact hma),_,rfl,?_⟩
   rw [key_some hk4]
   by_cases hm:addv pv r∈ms
   ·rw [decide_eq_true hm]
    exact iteF (iteF ⟨_,_,ms,rfl,off4,D4,F4,h1,h2,done (.inl hm)⟩)
   ·rw [decide_eq_false hm]
    have hc4:H4 c=some (.tup (cs.map cV)):=off4 _ _ (by simpa using ne_of (s1 _ _ hc) hd1 (by intro z; cases z)) (s1 _ _ hc)
    have hx4:H4 xa=some (.tup (r.map V.int)):=off4 _ _ (by simpa using ne_of (s1 _ _ hx) hd1 (by intro z; cases z)) (s1 _ _ hx)
    have hal:(addv pv r).length=cs.length:=by rw [addv_len (by rw [hpn.1,hrn.1]),hpn.1]
    refine iteT ⟨_,rfl,_,rfl,c,ma,cs,addv pv r,rfl,hc4,hma,by omega,fun H5 s5=>⟨Wi cs (addv pv r),rfl,?_⟩⟩
    cases eW:Wi cs (addv pv r) with
    | false =>
     exact iteF ⟨_,_,ms,rfl,off4.trans s5.off,D4.same s5,F4,h1,h2,done (.inr eW)⟩
    | true =>
     have hnew:Fnd cs most (ms++[addv pv r]):=⟨nd_snoc F4.nd hm,fun v hv=>by
      rcases List.mem_append.mp hv with z | z
      ·exact F4.nv v z
      ·rw [List.mem_singleton.mp z]; exact ⟨hpn.add hrn,eW⟩⟩
     have hlen2:=hfit _ hnew.nd hnew.nv
     rw [List.length_append] at hlen2
     have hl1:([addv pv r]:LLI).length=1:=rfl
     refine iteT ⟨fun σ' H'=>∃ (mv:V),σ'=[some (.ref d),some (.ref xa),some (.ref c),some (.int most),some (.ref ua),some mv]∧Off [d] H1 H'∧Dk H' d (ms++[addv pv r])∧IT H' mv (addv (addv pv r) r),fun σ' H' ⟨mv',g1,g2,g3,g4⟩=>⟨most - (ms++[addv pv r]).length,by rw [List.length_append]; omega,mv',ms++[addv pv r],addv pv r,rfl,g1,g2,g3,hnew,g4,by simp,fun v hv=>List.mem_append_left _ (h1 v hv),fun v hv=>?_,fun v hv hn hne hw=>?_⟩,?_⟩
     ·rcases List.mem_append.mp hv with z | z
      ·exact h2 v z
      ·obtain ⟨u',q1,k',q2⟩:=h2 pv hpv
       rw [List.mem_singleton.mp z,q2,← addk_succ (by rw [(hF.nv u' q1).1.1,hrn.1])]
       exact ⟨u',q1,_,rfl⟩
     ·rcases List.mem_append.mp hv with z | z
      ·by_cases e:v=pv
       ·subst e; simp
       ·exact List.mem_append_left _ (h3 v z hn e hw)
      ·exact absurd (List.mem_singleton.mp z) hne
     have hd5:=s5 _ _ hd4
     refine ⟨_,rfl,_,rfl,d,_,rfl,DPut.t (k:=(addv pv r).map Sum.inl) hd5 (by rw [kv_int]; exact s5 _ _ hma) (by omega),?_⟩
     rw [putK_new _ ((key_none hk4).mpr hm)]
     have off6:Off [d] H1 (upd H5 d (.dT (kv4++[((addv pv r).map Sum.inl,.bl true)]))):=(off4.trans s5.off).set (by simp)
     have D6:Dk (upd H5 d (.dT (kv4++[((addv pv r).map Sum.inl,.bl true)]))) d (ms++[addv pv r]):=⟨_,upd_same,by rw [List.map_append,hk4]; simp [IK]⟩
     have hma6:upd H5 d (.dT (kv4++[((addv pv r).map Sum.inl,.bl true)])) ma=some (.tup ((addv pv r).map V.int)):=by rw [upd_ne (ne_of (s5 _ _ hma) hd5 (by intro z; cases z))]; exact s5 _ _ hma
     have hx6:upd H5 d (.dT (kv4++[((addv pv r).map Sum.inl,.bl true)])) xa=some (.tup (r.map V.int)):=by rw [upd_ne (ne_of (s5 _ _ hx4) hd5 (by intro z; cases z))]; exact s5 _ _ hx4
     generalize upd H5 d (.dT (kv4++[((addv pv r).map Sum.inl,.bl true)]))=H6 at off6 D6 hma6 hx6
     refine ⟨_,rfl,_,rfl,.ref ma,.ref xa,addv pv r,r,rfl,⟨ma,rfl,hma6⟩,⟨xa,rfl,hx6⟩,by omega,fun m7 H7 s7 hm7=>?_⟩
     exact ⟨m7,rfl,off6.trans s7.off,D6.same s7,hm7⟩
  ·rintro σ H2 ⟨o4,o5,ms,rfl,off2,D2,F2,h1,h2,h3⟩
   rw [hI1.1,List.drop_length] at h3
   have cl:∀ v∈ms,Wi cs (addv v r)=true→addv v r∈ms:=fun v hv hw=>h3 v hv (by simp) hw
   refine k ms H2 D2 F2 (fun v=>⟨fun hv=>?_,?_⟩) (fun a o ha e=>off2 a o ha (s1 a o e))
   ·obtain ⟨u,q1,k',q2⟩:=h2 v hv
    exact ⟨u,q1,k',q2,(F2.nv v hv).2⟩
   ·rintro ⟨u,q1,k',rfl,hw⟩
    have hun:=(hF.nv u q1).1
    have hl:u.length=r.length:=by rw [hun.1,hrn.1]
    have key:∀ j,j≤k'→addk u j r∈ms:=fun j=>by
     induction j with
     | zero=>intro _; rw [addk_zero hl]; exact h1 u q1
     | succ j ih =>
      intro hj
      rw [addk_succ hl]
      refine cl _ (ih (by omega)) ?_
      rw [← addk_succ hl]
      refine wi_mono (by rw [addk_len hl,hun.1]) hw ⟨by rw [addk_len hl,addk_len hl],fun i _=>?_⟩
      rw [addk_at hl,addk_at hl]
      have:=Int.mul_le_mul_of_nonneg_right (show ((j+1:Nat):Int)≤(k':Int) by omega) (hrn.at_ i)
      omega
    exact key k' (Nat.le_refl _)
inductive IspNought (vs:List V) (H:Hp) (Q:VK) (E:XK):Prop
 | mk (n:Int) (_:vs=[.int n]) (_:1≤n) (_:n≤1000) (_:∀ v H',Same H H'→IT H' v (List.replicate n.toNat 0)→Q v H'):IspNought  vs H Q E
def spNought:Sp:=fun vs H Q E=>IspNought  vs H Q E
theorem sc_nought:FnScope ["width"] ["width"] (defScope s_nought):=⟨rfl,rfl,rfl,by decide +kernel,rfl,by decide +kernel,by decide +kernel⟩
theorem ok_nought (F:FunAt K mg "nought" s_nought ["width"]):Ok P w K mg base "nought" 1 ["width"] spNought:=by
 refine F.okJ sc_nought (fun vs H Q E h=>?_) (fun cdv f A outer s H vs Q E hr h=>?_)
 ·obtain ⟨n,rfl,_⟩:=h
  rfl
 ·obtain ⟨n,rfl,h1,h2,k⟩:=h
  refine ⟨_,(jb_one (js_ret (j_repT (j_tup (ja_cons j_int ja_nil)) (jv 0)))),?_⟩
  have hz:(1000:Nat)≤sizeLine:=by rw [sizeLine_eq]; decide
  refine ⟨by show 1≤sizeLine; omega,fun p hp=>⟨_,rfl,p,[.int 0],n,rfl,rfl,upd_same,by simp,h1,?_,fun q H' s e=>?_⟩⟩
  ·show (1:Int)*n≤_
   omega
  ·rw [flat_rep] at e
   exact k _ _ (((Same.refl H).upd hp).trans s) ⟨q,rfl,e⟩
inductive IspAnswers (vs:List V) (H:Hp) (Q:VK) (E:XK):Prop
 | mk (t c:Addr) (mi:Int) (most:Nat) (us:List V) (tss:LLI) (cs:List (Option Int)) (_:vs=[.ref t,.ref c,.int mi]) (_:mi=most) (_:H t=some (.tup us)) (_:Its H us tss) (_:(∀ v∈tss,Nv cs.length v∧0 < v.sum)) (_:H c=some (.tup (cs.map cV))) (_:1≤cs.length) (_:cs.length≤100) (_:most≤100000) (_:Fits cs most) (_:Wi cs (List.replicate cs.length 0)=true) (_:∀ q zs srt H',Same H H'→H' q=some (.tup zs)→Its H' zs srt→Rises srt→srt.Nodup→(∀ v,v∈srt↔SumOf cs.length tss v∧Wi cs v=true)→Q (.ref q) H'):IspAnswers  vs H Q E
def spAnswers:Sp:=fun vs H Q E=>IspAnswers  vs H Q E
theorem sc_answers:FnScope ["told", "caps", "most", "found", "one"] ["told", "caps", "most"] (defScope s_answers):=⟨rfl,rfl,rfl,by decide +kernel,rfl,by decide +kernel,by decide +kernel⟩
theorem ok_answersP (F':FunAt K mg "answers" s_answers ["told", "caps", "most"]) (T:Tx mg) (O_nought:Ok P w K mg base "nought" 1 ["width"] spNought) (O_grow:Ok P w K mg base "grow" 2 ["found", "one", "caps", "most"] spGrow):Ok P w K mg base "answers" 3 ["told", "caps", "most"] spAnswers:=by
 refine F'.okJ sc_answers (fun vs H Q E h=>?_) (fun cdv f A outer s H vs Q E hr h=>?_)
 ·obtain ⟨t,c,mi,most,us,tss,cs,rfl,_⟩:=h
  rfl
 ·obtain ⟨t,c,_,most,us,tss,cs,rfl,rfl,ht,hI,hT,hc,n1,n2,hmost,hfit,hw0,k⟩:=h
  have hu:=hr.u60
  have hz:(300000:Nat)≤sizeLine:=by rw [sizeLine_eq]; decide
  have hTn:∀ v∈tss,Nv cs.length v:=fun v hv=>(hT v hv).1
  refine ⟨_,(jb_cons (js_set (i:=3) sc_answers.nd rfl (Or.inl rfl) (j_disp1T hu (j_call O_nought (hr.mono (by omega)) rfl (ja_cons (jc_len K rfl T.b_len (ja_cons (jv 1) ja_nil)) ja_nil)) j_bl))
 (jb_cons (js_for (ji_tup K (jv 0)) (jg_name (i:=4) sc_answers.nd rfl (Or.inl rfl))
 (jb_one (js_expr (j_call O_grow (hr.mono (by omega)) rfl (ja_cons (jv 3) (ja_cons (jv 4) (ja_cons (jv 1) (ja_cons (jv 2) ja_nil))))))))
 (jb_cons (js_if (jt_gt (jc_lenT rfl T.b_len (ja_cons (jv 3) ja_nil)) (jv 2))
 (jb_one js_never)
 jb_nil)
 (jb_one (js_ret (jc_tuple K rfl T.b_tuple (ja_cons (jc_sortD rfl T.b_sorted (ja_cons (jv 3) ja_nil)) ja_nil))))))),?_⟩
  intro d hd
  have s0:=(Same.refl H).upd (o:=.dT []) hd
  have e0:upd H d (.dT []) d=some (.dT []):=upd_same
  generalize upd H d (.dT [])=H0 at s0 e0
  refine ⟨_,rfl,c,_,rfl,.inr (SqT.of (s0 _ _ hc)),_,rfl,by rw [List.length_map]; omega,by rw [List.length_map]; omega,fun v H1 s1 hv=>?_⟩
  rw [List.length_map,Int.toNat_natCast] at hv
  obtain ⟨va,rfl,hva⟩:=hv
  refine ⟨s1 _ _ e0,va,(List.replicate cs.length (0:Int)).map Sum.inl,rfl,by rw [kv_int]; exact hva,?_⟩
  try dsimp only [gName,List.set]
  have off1:Off [d] H (upd H1 d (.dT [((List.replicate cs.length (0:Int)).map Sum.inl,.bl true)])):=fun a o ha e=>by
   rw [upd_ne (by simpa using ha)]
   exact s1 _ _ (s0 _ _ e)
  have D1:Dk (upd H1 d (.dT [((List.replicate cs.length (0:Int)).map Sum.inl,.bl true)])) d [List.replicate cs.length 0]:=⟨_,upd_same,rfl⟩
  have F1:Fnd cs most [List.replicate cs.length 0]:=⟨by simp,fun v hv=>by rw [List.mem_singleton.mp hv]; exact ⟨nv_zero _,hw0⟩⟩
  generalize upd H1 d (.dT [((List.replicate cs.length (0:Int)).map Sum.inl,.bl true)])=H2 at off1 D1
  have same:∀ {H':Hp},Off [d] H H'→Same H H':=fun o b u e=>o b u (by simpa using ne_of_none e hd) e
  refine ⟨_,rfl,t,rfl,⟨_,SqT.of (same off1 _ _ ht)⟩,?_⟩
  refine for_tup (K:=K) (a:=t) (xs:=us) (fun i σ H'=>Ex2 fun (o4:Option V) (ms:LLI)=>An5 (σ=[some (.ref t),some (.ref c),some (.int most),some (.ref d),o4]) (Off [d] H H') (Dk H' d ms) (Fnd cs most ms) (∀ v,v∈ms↔SumOf cs.length (tss.take i) v∧Wi cs v=true))
   ⟨none,_,rfl,off1,D1,F1,fun v=>⟨fun hv=>by rw [List.mem_singleton.mp hv]; exact ⟨.nil,hw0⟩,fun ⟨hv,_⟩=>by rw [List.take_zero] at hv; rw [hv.inv0]; simp⟩⟩ (fun i σ H' _ h=>by obtain ⟨_,_,_,o',_⟩:=h; exact SqT.of (same o' _ _ ht)) ?_ ?_
  ·rintro i x σ H3 hx ⟨o4,ms,rfl,off3,D3,F3,hm⟩
   obtain ⟨r,hr1,hr2,hr3⟩:=hI.mem hx
   have s3:=same off3
   try dsimp only [gName,List.set]
   refine ⟨_,rfl,_,rfl,_,rfl,_,rfl,d,x,c,_,most,ms,r,cs,rfl,rfl,D3,F3,hfit,hr3.same s3,(hT r hr1).1,(hT r hr1).2,s3 _ _ hc,n2,hmost,fun ms' H4 D4 F4 hm4 off4=>?_⟩
   refine ⟨_,ms',rfl,off3.trans off4,D4,F4,fun v=>?_⟩
   have et:tss.take (i+1)=tss.take i++[r]:=by rw [List.take_add_one,hr2]; rfl
   rw [hm4,et]
   have hTi:∀ v∈tss.take i,Nv cs.length v:=fun v hv=>hTn v (List.mem_of_mem_take hv)
   constructor
   ·rintro ⟨u,hu1,k',rfl,hw⟩
    exact ⟨.snoc k' ((hm u).mp hu1).1,hw⟩
   ·rintro ⟨hs,hw⟩
    obtain ⟨u,k',hu1,rfl⟩:=hs.inv
    have hun:=hu1.nv hTi
    exact ⟨u,(hm u).mpr ⟨hu1,wi_mono (by rw [addk_len (by rw [hun.1,(hT r hr1).1.1]),hun.1]) hw (under_addk hun (hT r hr1).1)⟩,k',rfl,hw⟩
  ·rintro σ H3 ⟨o4,ms,rfl,off3,D3,F3,hm⟩
   rw [hI.1,List.take_length] at hm
   obtain ⟨kvs,hd3,hk3⟩:=id D3.ex
   have hkl:=ik_len hk3
   have hlen:=hfit ms F3.nd F3.nv
   refine ⟨_,rfl,d,kvs,rfl,hd3,_,rfl,_,_,rfl,rfl,_,rfl,?_⟩
   rw [show decide ((most:Int) < (kvs.length:Int))=false from decide_eq_false (by omega)]
   refine iteF ⟨_,rfl,d,kvs,ms,rfl,hd3,hk3,fun r hr=>by rw [(F3.nv r hr).1.1]; omega,fun p zs srt hp hIz hpm hri=>⟨p,zs,rfl,.inl ⟨SqL.of upd_same,fun q hq=>?_⟩⟩⟩
   have s4:=((Same.refl H3).upd (o:=.lst zs) hp).upd (o:=.tup zs) hq
   exact k q zs srt _ ((same off3).trans s4) upd_same (hIz.same s4) hri (hpm.symm.nodup F3.nd) fun v=>hpm.mem_iff.trans (hm v)
theorem flat_takeB {c:Int} {l:LLI} {j:Nat} {r:List Int} (h:l[j]?=some r):(l.take (j+1)).flatMap (extL c)=(l.take j).flatMap (extL c)++extL c r:=by
 rw [List.take_add_one,h,List.flatMap_append]
 simp
inductive IspBox (vs:List V) (H:Hp) (Q:VK) (E:XK):Prop
 | mk (c:Addr) (cs:List Int) (m:Nat) (_:vs=[.ref c]) (_:H c=some (.tup (cs.map V.int))) (_:(∀ x∈cs,0≤x∧x < m)) (_:1≤m) (_:m ^ cs.length≤900) (_:cs.length≤8) (_:m≤100) (_:∀ l us H',Same H H'→H' l=some (.lst us)→Its H' us (boxL cs)→Q (.ref l) H'):IspBox  vs H Q E
def spBox:Sp:=fun vs H Q E=>IspBox  vs H Q E
theorem sc__law_box:FnScope ["_law_caps", "_law_found", "_law_cap", "_law_more", "_law_one"] ["_law_caps"] (defScope s__law_box):=⟨rfl,rfl,rfl,by decide +kernel,rfl,by decide +kernel,by decide +kernel⟩
theorem ok_box (F:FunAt K mg "_law_box" s__law_box ["_law_caps"]) (T:Tx mg):Ok P w K mg base "_law_box" 1 ["_law_caps"] spBox:=by
 refine F.okJ sc__law_box (fun vs H Q E h=>?_) (fun cdv f A outer s H vs Q E hr h=>?_)
 ·obtain ⟨c,cs,m,rfl,_⟩:=h
  rfl
 ·obtain ⟨c,cs,m,rfl,hc,hm,hm1,hb,hn8,hm100,kk⟩:=h
  have hz:(3000:Nat)≤sizeLine:=by rw [sizeLine_eq]; decide
  have hlen:∀ i,i≤cs.length→(boxL (cs.take i)).length≤900:=fun i hi=>Nat.le_trans (boxL_len hm i hi) (Nat.le_trans (Nat.pow_le_pow_right hm1 hi) hb)
  refine ⟨_,(jb_cons (js_set (i:=1) sc__law_box.nd rfl (Or.inl rfl) (j_lst (ja_cons (j_tup ja_nil) ja_nil)))
 (jb_cons (js_for (ji_tup K (jv 0)) (jg_name (i:=2) sc__law_box.nd rfl (Or.inl rfl))
 (jb_cons (js_set (i:=3) sc__law_box.nd rfl (Or.inl rfl) (j_lst ja_nil))
 (jb_cons (js_for (ji_list K (jv 1)) (jg_name (i:=4) sc__law_box.nd rfl (Or.inr rfl))
 (jb_one (js_set (i:=3) sc__law_box.nd rfl (Or.inl rfl) (j_cat (jv 3) (j_comp (N:=["_law_number", "_law_one"]) (src:=[none,some 4]) (ji_range1 rfl T.b_range (ja_cons (j_add (jv 2) j_int) ja_nil)) (by show capOk _ _=true; rfl) (by rfl) (by rfl)
 (fun _ _ _ _ _=>(jg_name (i:=0) (show (["_law_number", "_law_one"]:List Str).Nodup by decide +kernel) rfl (Or.inl rfl))) (fun _ _ _ _ _=>jf_nil) (fun _ _ _ _ _=>(j_plusT (jv 1) (j_tup (ja_cons (jv 0) ja_nil)))))))))
 (jb_one (js_set (i:=1) sc__law_box.nd rfl (Or.inl rfl) (jv 3))))))
 (jb_one (js_ret (jv 1))))),?_⟩
  refine ⟨Nat.zero_le _,fun p0 hp0=>⟨by show 1≤sizeLine; omega,fun l0 hl0=>?_⟩⟩
  have s0:=((Same.refl H).upd (o:=.tup []) hp0).upd (o:=.lst [.ref p0]) hl0
  have e0:upd (upd H p0 (.tup [])) l0 (.lst [.ref p0]) l0=some (.lst [.ref p0]):=upd_same
  have i0:Its (upd (upd H p0 (.tup [])) l0 (.lst [.ref p0])) [.ref p0] (boxL (cs.take 0)):=Its.nil.snoc ⟨p0,rfl,((Same.refl _).upd (o:=.lst [.ref p0]) hl0) _ _ upd_same⟩
  generalize upd (upd H p0 (.tup [])) l0 (.lst [.ref p0])=H0 at s0 e0 i0
  dsimp only [gName]
  refine ⟨_,rfl,c,rfl,⟨_,SqT.of (s0 _ _ hc)⟩,?_⟩
  refine for_tup (K:=K) (a:=c) (xs:=cs.map V.int) (fun i σ H'=>Ex5 fun (l:Addr) (us:List V) (o2 o3 o4:Option V)=>An4 (σ=[some (.ref c),some (.ref l),o2,o3,o4]) (Same H H') (H' l=some (.lst us)) (Its H' us (boxL (cs.take i)))) ⟨l0,_,none,none,none,rfl,s0,e0,i0⟩ (fun i σ H' _ h=>by obtain ⟨_,_,_,_,_,_,s',_⟩:=h; exact SqT.of (s' _ _ hc)) ?_ ?_
  ·rintro i x σ H1 hx ⟨l,us,o2,o3,o4,rfl,s1,el,hI⟩
   obtain ⟨z,hzi,rfl⟩:=get_int hx
   obtain ⟨hi,ez⟩:=List.getElem?_eq_some_iff.mp hzi
   obtain ⟨z0,z1⟩:=hm z (List.mem_of_getElem? hzi)
   have hl1:=hlen i (by omega)
   have hl2:=hlen (i+1) (by omega)
   rw [boxL_take hi,ez] at hl2
   dsimp only [gName]
   refine ⟨Nat.zero_le _,fun pl0 hpl=>?_⟩
   have s2:=(Same.refl H1).upd (o:=.lst []) hpl
   have e2:upd H1 pl0 (.lst []) pl0=some (.lst []):=upd_same
   generalize upd H1 pl0 (.lst [])=H2 at s2 e2
   dsimp only [gName]
   have el2:=s2 _ _ el
   refine ⟨_,rfl,l,rfl,⟨_,SqL.of el2⟩,?_⟩
   have hll:∀ {H':Hp},Same H1 H'→SqL K H' l us:=fun s=>SqL.of (s _ _ el)
   refine for_list (K:=K) (a:=l) (xs:=us) (fun j σ H'=>Ex3 fun (pl:Addr) (o4:Option V) (ws:List V)=>An4 (σ=[some (.ref c),some (.ref l),some (.int z),some (.ref pl),o4]) (Same H1 H') (H' pl=some (.lst ws)) (Its H' ws (((boxL (cs.take i)).take j).flatMap (extL z)))) ⟨pl0,o4,[],rfl,s2,e2,by simpa using Its.nil⟩ (fun j σ H' _ h=>by obtain ⟨_,_,_,_,s',_⟩:=h; exact hll s') ?_ ?_
   ·rintro j y σ H3 hy ⟨pl,o4,ws,rfl,s3,e3,hI3⟩
    obtain ⟨r,hr',hri,hyr⟩:=hI.mem hy
    obtain ⟨ya,rfl,hya⟩:=hyr.same s3
    have hrl:r.length=i:=by
     have:=(boxL_mem i (by omega) r).mp hr'
     exact this.1
    have hws:ws.length≤900:=by
     rw [hI3.1,flat_len]
     rw [flat_len] at hl2
     exact Nat.le_trans (Nat.mul_le_mul_right _ (List.length_take_le' _ _)) hl2
    dsimp only [gName]
    refine ⟨_,rfl,_,rfl,_,_,rfl,rfl,_,rfl,by omega,by omega,?_⟩
    refine range_by (n:=(z+1).toNat) (caps:=[some (.ref ya)]) (by omega) rfl (fun k ys H'=>Same H3 H'∧Its H' ys ((List.range k).map fun (t:Nat)=>r++[(t:Int)])) ⟨Same.refl _,Its.nil⟩ (fun k ys H' h=>by rw [h.2.1,List.length_map,List.length_range]; exact Nat.le_refl _) ?_ ?_
    ·rintro k ys H4 hk ⟨s4,hI4⟩
     refine ⟨_,rfl,_,rfl,by show 1≤sizeLine; omega,fun p5 hp5=>?_⟩
     have s5:=(Same.refl H4).upd (o:=.tup [.int k]) hp5
     refine ⟨ya,p5,_,_,rfl,rfl,(s4.trans s5) _ _ hya,upd_same,by rw [List.length_map]; show _+1≤_; omega,fun p6 H6 s6 e6=>?_⟩
     have s56:=s5.trans s6
     refine ⟨s4.trans s56,?_⟩
     rw [List.range_succ,List.map_append]
     exact (hI4.same s56).snoc ⟨p6,rfl,by rw [e6,List.map_append]; rfl⟩
    ·rintro ys H4 ⟨s4,hI4⟩ p5 hp5
     have s5:=s4.upd (o:=.lst ys) hp5
     have e5:upd H4 p5 (.lst ys) p5=some (.lst ys):=upd_same
     have hI5:=hI4.same ((Same.refl H4).upd (o:=.lst ys) hp5)
     generalize upd H4 p5 (.lst ys)=H5 at s5 e5 hI5
     have e35:=s5 _ _ e3
     have hys:ys.length≤200:=by
      rw [hI5.1,List.length_map,List.length_range]
      omega
     refine ⟨pl,p5,ws,ys,rfl,rfl,e35,e5,by omega,fun p7 hp7=>?_⟩
     have s7:=(Same.refl H5).upd (o:=.lst (ws++ys)) hp7
     refine ⟨p7,_,ws++ys,rfl,(s3.trans s5).trans s7,upd_same,?_⟩
     rw [flat_takeB hri]
     exact (its_app (hI3.same s5) hI5).same s7
   ·rintro σ H3 ⟨pl,o4,ws,rfl,s3,e3,hI3⟩
    refine ⟨_,rfl,?_⟩
    refine ⟨pl,ws,_,_,_,rfl,s1.trans s3,e3,?_⟩
    rw [boxL_take hi,ez]
    rw [hI.1,List.take_length] at hI3
    exact hI3
  ·rintro σ H1 ⟨l,us,o2,o3,o4,rfl,s1,el,hI⟩
   rw [List.length_map,List.take_length] at hI
   exact ⟨_,rfl,kk l us H1 s1 el hI⟩
end
theorem lex_snoc:∀ {a b:List Int} {x y:Int},a.length=b.length→HT.lexLt (a++[x]) (b++[y])=if a=b then decide (x < y) else HT.lexLt a b
 | [],[],x,y,_=>by
  show (if x=y then HT.lexLt [] [] else decide (x < y))=_
  by_cases e:x=y
  ·subst e; rw [if_pos rfl, if_pos rfl]; exact (decide_eq_false (Int.lt_irrefl x)).symm
  ·rw [if_neg e]; rfl
 | u::a,v::b,x,y,h=>by
  have ih:=lex_snoc (a:=a) (b:=b) (x:=x) (y:=y) (by simpa using h)
  rw [List.cons_append,List.cons_append,HT.lexLt_cons,HT.lexLt_cons,ih]
  by_cases e:u=v
  ·subst e
   rw [if_pos rfl,if_pos rfl]
   by_cases e2:a=b
   ·subst e2; simp
   ·rw [if_neg e2,if_neg (fun z=>e2 (List.cons.inj z).2)]
  ·rw [if_neg e,if_neg e,if_neg (fun z=>e (List.cons.inj z).1)]
theorem box_ord {cs:List Int}:∀ i,i≤cs.length→Rises (boxL (cs.take i))∧(boxL (cs.take i)).Nodup
 | 0,_=>by
  rw [List.take_zero]
  exact ⟨List.pairwise_singleton _ _,by simp [boxL]⟩
 | i+1,hi=>by
  obtain ⟨h1,h2⟩:=box_ord (cs:=cs) i (by omega)
  have hlen:∀ v∈boxL (cs.take i),v.length=i:=fun v hv=>((boxL_mem i (by omega) v).mp hv).1
  rw [boxL_take (by omega)]
  have hord:(boxL (cs.take i)).Pairwise fun a b=>HT.lexLt b a=false∧a≠b:=h1.and h2
  constructor
  ·unfold Rises
   rw [List.pairwise_flatMap]
   refine ⟨fun u _=>?_,hord.imp_of_mem fun {u v} hu hv huv x hx y hy=>?_⟩
   ·unfold extL
    rw [List.pairwise_map]
    refine List.pairwise_lt_range.imp fun {a b} hab=>?_
    rw [lex_snoc rfl,if_pos rfl,decide_eq_false]
    omega
   ·obtain ⟨k,_,rfl⟩:=List.mem_map.mp hx
    obtain ⟨k',_,rfl⟩:=List.mem_map.mp hy
    rw [lex_snoc (by rw [hlen u hu,hlen v hv]),if_neg huv.2.symm]
    exact huv.1
  ·unfold List.Nodup
   rw [List.pairwise_flatMap]
   refine ⟨fun u _=>?_,hord.imp_of_mem fun {u v} hu hv huv x hx y hy e=>?_⟩
   ·unfold extL
    rw [List.pairwise_map]
    refine List.pairwise_lt_range.imp fun {a b} hab e=>?_
    have:=(List.append_inj' e rfl).2
    simp at this
    omega
   ·obtain ⟨k,_,rfl⟩:=List.mem_map.mp hx
    obtain ⟨k',_,rfl⟩:=List.mem_map.mp hy
    exact huv.2 (List.append_inj' e rfl).1
theorem no_overB {rss:LLI} {cs:List Int} {most:Nat} (hR:∀ r∈rss,r.length=(cs.map some).length) (hb:(boxL cs).length≤most):¬ Over rss (cs.map some) most:=by
 rintro ⟨F,W,L,k,hW,ho⟩
 obtain ⟨i1,i2,_⟩:=hW.lv
 have hin:∀ v∈W,v∈boxL cs:=fun v hv=>by
  obtain ⟨i,_,_,lv⟩:=i2 v hv
  exact box_iff.mpr ⟨by rw [lv.len,List.length_map],lv.nn,hW.wi hR v hv⟩
 rcases ho with q | ⟨_,L',nd,hx,q⟩
 ·have:=nd_le W (boxL cs) hW.nd.1 hin
  omega
 ·have:=nd_le (W++L') (boxL cs) (List.nodup_append.mpr ⟨hW.nd.1,nd,fun v hv u hu e=>by
   obtain ⟨i,_,_,lv⟩:=i2 v hv
   obtain ⟨t,ht,hn⟩:=hx u hu
   have lu:=(nx_lv (i1 t ht) hn).sum
   rw [← e,lv.sum] at lu
   omega⟩) fun v hv=>by
   rcases List.mem_append.mp hv with z | z
   ·exact hin v z
   ·obtain ⟨u,hu,hn⟩:=hx v z
    have lv:=nx_lv (i1 u hu) hn
    exact box_iff.mpr ⟨by rw [lv.len,List.length_map],lv.nn,wi_nx (i1 u hu).len ((hW.ok hR).wi u hu) hn⟩
  rw [List.length_append] at this
  omega
theorem sumN (l:List Int) (h:∀ x∈l,0≤x):0≤l.sum:=by
 induction l with
 | nil=>exact Int.le_refl _
 | cons x l ih =>
  have:=ih fun y hy=>h y (List.mem_cons_of_mem _ hy)
  have:=h x (List.mem_cons_self ..)
  rw [List.sum_cons]
  omega
theorem sumP (l:List Int) (h:∀ x∈l,0≤x) (y:Int) (hy:y∈l) (hp:0 < y):0 < l.sum:=by
 induction l with
 | nil=>cases hy
 | cons x l ih =>
  have h0:=sumN l fun y hy=>h y (List.mem_cons_of_mem _ hy)
  have h1:=h x (List.mem_cons_self ..)
  rw [List.sum_cons]
  rcases List.mem_cons.mp hy with rfl | q
  ·omega
  ·have:=ih (fun y hy=>h y (List.mem_cons_of_mem _ hy)) q
   omega
theorem gd_mem {xs:List Int} {j:Nat} (h:j < xs.length):xs.getD j 0∈xs:=by
 rw [List.getD_eq_getElem?_getD,List.getElem?_eq_getElem h]
 exact List.getElem_mem h
def vadd (a b:List Int):List Int:=List.zipWith (fun a b=>a+b) a b
def vmul (c:Int) (r:List Int):List Int:=r.map fun z=>c*z
def TgA:List Int→LLI→List Int→List Int
 | acc,r::rss,c::cs=>TgA (vadd acc (vmul c r)) rss cs
 | acc,_,_=>acc
theorem vadd_len (a b:List Int) (h:a.length=b.length):(vadd a b).length=b.length:=by unfold vadd; rw [List.length_zipWith]; omega
theorem vadd_at (a b:List Int) (h:a.length=b.length) (j:Nat):(vadd a b).getD j 0=a.getD j 0+b.getD j 0:=by
 unfold vadd
 rw [List.getD_eq_getElem?_getD,List.getD_eq_getElem?_getD,List.getD_eq_getElem?_getD,List.getElem?_zipWith]
 by_cases hj:j < a.length
 ·rw [List.getElem?_eq_getElem hj,List.getElem?_eq_getElem (by omega)]
  rfl
 ·rw [List.getElem?_eq_none (by omega),List.getElem?_eq_none (by omega)]
  rfl
theorem drop_cons {α:Type} {xs:List α} {i:Nat} {x:α} (h:xs[i]?=some x):xs.drop i=x::xs.drop (i+1):=by
 obtain ⟨h1,h2⟩:=List.getElem?_eq_some_iff.mp h
 rw [List.drop_eq_getElem_cons h1,h2]
section
variable {P:Program} {w:World} {K:PySem.W.Frag} {mg:Str→Option Value} {base:Heap}
theorem sc_minus:FnScope ["one", "other"] ["one", "other"] (defScope s_minus):=⟨rfl,rfl,rfl,by decide +kernel,rfl,by decide +kernel,by decide +kernel⟩
theorem ok_minus (F:FunAt K mg "minus" s_minus ["one", "other"]) (T:Tx mg):Ok P w K mg base "minus" 1 ["one", "other"] (spZip fun a b=>a - b):=by
 refine F.okJ sc_minus (fun vs H Q E h=>?_) (fun cdv f A outer s H vs Q E hr h=>?_)
 ·obtain ⟨x,y,xs,ys,rfl,_⟩:=h
  rfl
 ·obtain ⟨_,_,xs,ys,rfl,⟨a,rfl,ha⟩,⟨b,rfl,hb⟩,hl,k⟩:=h
  refine ⟨_,(jb_one (js_ret (jc_tuple K rfl T.b_tuple (ja_cons (j_comp (N:=["a", "b"]) (src:=[none,none]) (ji_zip K rfl T.b_zip (ja_cons (jv 0) (ja_cons (jv 1) ja_nil))) (by show capOk _ _=true; rfl) (by rfl) (by rfl)
 (fun _ _ _ _ _=>(jg_tup K 2 (jgs_cons (jg_name (i:=0) (show (["a", "b"]:List Str).Nodup by decide +kernel) rfl (Or.inl rfl)) (jgs_cons (jg_name (i:=1) (show (["a", "b"]:List Str).Nodup by decide +kernel) rfl (Or.inl rfl)) jgs_nil)))) (fun _ _ _ _ _=>jf_nil) (fun _ _ _ _ _=>(j_sub (jv 0) (jv 1)))) ja_nil)))),?_⟩
  refine ⟨_,rfl,_,rfl,true,true,a,b,rfl,⟨_,SqT.of ha⟩,⟨_,SqT.of hb⟩,?_⟩
  refine zip_ints (caps:=[]) (fun x y=>V.int (x - y)) (sqt ha) (sqt hb) hl (fun H' s=>⟨sqt (s _ _ ha),sqt (s _ _ hb)⟩) rfl (fun x y H1 Q1 _ q=>⟨_,rfl,_,rfl,_,_,rfl,rfl,q⟩) fun H1 p s hp=>?_
  rw [zip_map (fun x y=>x - y) V.int]
  refine ⟨p,_,rfl,.inl ⟨SqL.of upd_same,fun l hl=>?_⟩⟩
  exact k _ _ ((s.upd hp).upd hl) ⟨l,rfl,upd_same⟩
inductive IspTimes (vs:List V) (H:Hp) (Q:VK) (E:XK):Prop
 | mk (m:Int) (x:V) (xs:List Int) (_:vs=[.int m,x]) (_:IT H x xs) (_:xs.length≤1000) (_:0≤m) (_:m < 2 ^ 63) (_:∀ v H',Same H H'→IT H' v (xs.map fun z=>m*z)→Q v H'):IspTimes  vs H Q E
def spTimes:Sp:=fun vs H Q E=>IspTimes  vs H Q E
theorem sc_times:FnScope ["many", "one"] ["many", "one"] (defScope s_times):=⟨rfl,rfl,rfl,by decide +kernel,rfl,by decide +kernel,by decide +kernel⟩
theorem ok_times (F:FunAt K mg "times" s_times ["many", "one"]) (T:Tx mg):Ok P w K mg base "times" 1 ["many", "one"] spTimes:=by
 refine F.okJ sc_times (fun vs H Q E h=>?_) (fun cdv f A outer s H vs Q E hr h=>?_)
 ·obtain ⟨m,x,xs,rfl,_⟩:=h
  rfl
 ·obtain ⟨m,_,xs,rfl,⟨a,rfl,ha⟩,hl,m0,m1,k⟩:=h
  refine ⟨_,(jb_one (js_ret (jc_tuple K rfl T.b_tuple (ja_cons (j_comp (N:=["a", "many"]) (src:=[none,some 0]) (ji_tup K (jv 1)) (by show capOk _ _=true; rfl) (by rfl) (by rfl)
 (fun _ _ _ _ _=>(jg_name (i:=0) (show (["a", "many"]:List Str).Nodup by decide +kernel) rfl (Or.inl rfl))) (fun _ _ _ _ _=>jf_nil) (fun _ _ _ _ _=>(j_mul (jv 1) (jv 0)))) ja_nil)))),?_⟩
  refine ⟨_,rfl,a,rfl,⟨_,SqT.of ha⟩,?_⟩
  refine tup_ints (caps:=[some (.int m)]) (fun z=>V.int (m*z)) hl (fun H' s=>SqT.of (s _ _ ha)) rfl (fun x H1 Q1 _ _ q=>⟨_,rfl,_,rfl,_,_,rfl,rfl,.inl ⟨by omega,by omega⟩,q⟩) fun H1 p s hp=>?_
  rw [show (xs.map fun x=>V.int (m*x))=(xs.map fun x=>m*x).map V.int by rw [List.map_map]; rfl]
  refine ⟨p,_,rfl,.inl ⟨SqL.of upd_same,fun l hl=>?_⟩⟩
  exact k _ _ ((s.upd hp).upd hl) ⟨l,rfl,upd_same⟩
end
def Ofl:List Int→List Int→List Int
 | x::xs,y::ys=>if 0 < x then (y / x)::Ofl xs ys else Ofl xs ys
 | _,_=>[]
def minL:List Int→Int
 | []=>0
 | x::l=>l.foldl (fun σ a=>if a < σ then a else σ) x
theorem minL_mem {l:List Int} (h:l≠[]):minL l∈l∧∀ a∈l,minL l≤a:=by
 cases l with
 | nil=>exact absurd rfl h
 | cons x l =>
  obtain ⟨h1,h2,h3⟩:=fold_min l x
  refine ⟨?_,fun a ha=>?_⟩
  ·rcases h1 with q | q
   ·show List.foldl _ _ _∈_
    rw [q]; exact List.mem_cons_self ..
   ·exact List.mem_cons_of_mem _ q
  ·rcases List.mem_cons.mp ha with rfl | q
   ·exact h2
   ·exact h3 a q
theorem minL_one {l:List Int} {M:Int} (h1:M∈l) (h2:∀ a∈l,M≤a):M=minL l:=by
 have hne:l≠[]:=fun z=>by rw [z] at h1; cases h1
 obtain ⟨q1,q2⟩:=minL_mem hne
 have:=h2 _ q1
 have:=q2 _ h1
 omega
theorem Ofl_snoc:∀ (xs ys:List Int) (x y:Int),xs.length=ys.length→Ofl (xs++[x]) (ys++[y])=Ofl xs ys++(if 0 < x then [y / x] else [])
 | [],[],x,y,_=>by
  show (if 0 < x then _ else _)=_
  rfl
 | a::xs,b::ys,x,y,h=>by
  have ih:=Ofl_snoc xs ys x y (by simpa using h)
  show (if 0 < a then (b / a)::Ofl (xs++[x]) (ys++[y]) else Ofl (xs++[x]) (ys++[y]))=(if 0 < a then (b / a)::Ofl xs ys else Ofl xs ys)++_
  rw [ih]
  split <;> rfl
theorem Ofl_mem:∀ {xs ys:List Int} {m:Int},m∈Ofl xs ys→∃ i,i < xs.length∧i < ys.length∧0 < xs.getD i 0∧m=ys.getD i 0 / xs.getD i 0
 | [],ys,m,h=>by cases ys <;> exact nomatch h
 | x::xs,[],m,h=>nomatch h
 | x::xs,y::ys,m,h=>by
  change m∈(if 0 < x then (y / x)::Ofl xs ys else Ofl xs ys) at h
  by_cases hx:0 < x
  ·rw [if_pos hx] at h
   rcases List.mem_cons.mp h with q | q
   ·exact ⟨0,by simp,by simp,hx,q⟩
   ·obtain ⟨i,h1,h2,h3,h4⟩:=Ofl_mem q
    exact ⟨i+1,by simpa using h1,by simpa using h2,h3,h4⟩
  ·rw [if_neg hx] at h
   obtain ⟨i,h1,h2,h3,h4⟩:=Ofl_mem h
   exact ⟨i+1,by simpa using h1,by simpa using h2,h3,h4⟩
theorem Ofl_of:∀ {xs ys:List Int} {i:Nat},i < xs.length→i < ys.length→0 < xs.getD i 0→ys.getD i 0 / xs.getD i 0∈Ofl xs ys
 | x::xs,y::ys,0,_,_,h=>by
  have h:0 < x:=h
  show y / x∈(if 0 < x then (y / x)::Ofl xs ys else Ofl xs ys)
  rw [if_pos h]
  exact List.mem_cons_self ..
 | x::xs,y::ys,i+1,h1,h2,h3=>by
  have ih:=Ofl_of (xs:=xs) (ys:=ys) (i:=i) (by simpa using h1) (by simpa using h2) h3
  show ys.getD i 0 / xs.getD i 0∈(if 0 < x then (y / x)::Ofl xs ys else Ofl xs ys)
  split
  ·exact List.mem_cons_of_mem _ ih
  ·exact ih
def oft (r rest:List Int):Int:=minL (Ofl r rest)
def less (rest r:List Int) (m:Int):List Int:=List.zipWith (fun a b=>a - b) rest (r.map fun z=>m*z)
def LayF:LLI→List Int→List Int×List Int
 | [],rest=>([],rest)
 | r::rss,rest=>(oft r rest::(LayF rss (less rest r (oft r rest))).1,(LayF rss (less rest r (oft r rest))).2)
def Part (n:Nat) (r:List Int):Prop:=r.length=n∧(∀ x∈r,0≤x∧x < 1073741824)∧0 < r.sum
def Rest (n:Nat) (r:List Int):Prop:=r.length=n∧∀ x∈r,0≤x∧x < 2 ^ 62
theorem pos_of_sum {r:List Int} (h:∀ x∈r,0≤x) (hs:0 < r.sum):∃ i,i < r.length∧0 < r.getD i 0:=by
 by_cases q:∃ y∈r,0 < y
 ·obtain ⟨y,hy,hp⟩:=q
  obtain ⟨i,hi,rfl⟩:=List.mem_iff_getElem.mp hy
  exact ⟨i,hi,by rw [List.getD_eq_getElem?_getD,List.getElem?_eq_getElem hi]; exact hp⟩
 ·have hall:∀ y∈r,y=0:=fun y hy=>by
   have:=h y hy
   have:¬ 0 < y:=fun z=>q ⟨y,hy,z⟩
   omega
  rw [List.eq_replicate_iff.mpr ⟨rfl,hall⟩] at hs
  simp at hs
theorem Ofl_ne {n:Nat} {r rest:List Int} (hp:Part n r) (hr:rest.length=n):Ofl r rest≠[]:=fun z=>by
 obtain ⟨i,hi,hpos⟩:=pos_of_sum (fun x hx=>(hp.2.1 x hx).1) hp.2.2
 have:=Ofl_of (ys:=rest) hi (by rw [hr,← hp.1]; exact hi) hpos
 rw [z] at this
 cases this
theorem oft_ok {n:Nat} {r rest:List Int} (hp:Part n r) (hr:Rest n rest):0≤oft r rest∧oft r rest < 2 ^ 62∧∀ j,j < n→oft r rest*r.getD j 0≤rest.getD j 0:=by
 obtain ⟨h1,h2⟩:=minL_mem (Ofl_ne hp hr.1)
 have hrest:∀ j,j < n→0≤rest.getD j 0∧rest.getD j 0 < 2 ^ 62:=fun j hj=>hr.2 _ (gd_mem (by rw [hr.1]; exact hj))
 obtain ⟨i,i1,i2,i3,i4⟩:=Ofl_mem h1
 have hri:=hrest i (by rw [← hr.1]; exact i2)
 have h0:0≤oft r rest:=by
  show 0≤minL _
  rw [i4]
  exact Int.ediv_nonneg hri.1 (by omega)
 refine ⟨h0,?_,fun j hj=>?_⟩
 ·show minL _ < _
  rw [i4]
  have:=Int.ediv_le_self (r.getD i 0) hri.1
  omega
 ·have hx:=hp.2.1 _ (gd_mem (xs:=r) (j:=j) (by rw [hp.1]; exact hj))
  by_cases hz:r.getD j 0=0
  ·rw [hz,Int.mul_zero]; exact (hrest j hj).1
  ·have hpos:0 < r.getD j 0:=by omega
   have hle:oft r rest≤rest.getD j 0 / r.getD j 0:=h2 _ (Ofl_of (by rw [hp.1]; exact hj) (by rw [hr.1]; exact hj) hpos)
   have h3:=Int.mul_le_mul_of_nonneg_right hle (show 0≤r.getD j 0 by omega)
   have h4:rest.getD j 0 / r.getD j 0*r.getD j 0≤rest.getD j 0:=Int.ediv_mul_le _ (by omega)
   omega
theorem less_len {rest r:List Int} {m:Int} (h:rest.length=r.length):(less rest r m).length=r.length:=by
 unfold less; rw [List.length_zipWith,List.length_map]; omega
theorem less_at {rest r:List Int} {m:Int} (h:rest.length=r.length) (j:Nat):(less rest r m).getD j 0=rest.getD j 0 - m*r.getD j 0:=by
 unfold less
 rw [List.getD_eq_getElem?_getD,List.getD_eq_getElem?_getD,List.getD_eq_getElem?_getD,List.getElem?_zipWith,List.getElem?_map]
 by_cases hj:j < rest.length
 ·rw [List.getElem?_eq_getElem hj,List.getElem?_eq_getElem (by omega)]
  rfl
 ·rw [List.getElem?_eq_none (by omega),List.getElem?_eq_none (by omega)]
  show (0:Int)=0 - m*0
  omega
theorem rest_less {n:Nat} {r rest:List Int} (hp:Part n r) (hr:Rest n rest):Rest n (less rest r (oft r rest)):=by
 have hl:rest.length=r.length:=by rw [hr.1,hp.1]
 refine ⟨by rw [less_len hl,hp.1],fun x hx=>?_⟩
 obtain ⟨i,hi,rfl⟩:=List.mem_iff_getElem.mp hx
 rw [less_len hl,hp.1] at hi
 have e:=less_at (m:=oft r rest) hl i
 rw [List.getD_eq_getElem?_getD,List.getElem?_eq_getElem (by rw [less_len hl,hp.1]; exact hi)] at e
 have e:(less rest r (oft r rest))[i]=rest.getD i 0 - oft r rest*r.getD i 0:=e
 rw [e]
 obtain ⟨h0,h1,h2⟩:=oft_ok hp hr
 have:=h2 i hi
 have hq:=hr.2 _ (gd_mem (xs:=rest) (j:=i) (by rw [hr.1]; exact hi))
 have hx:=hp.2.1 _ (gd_mem (xs:=r) (j:=i) (by rw [hp.1]; exact hi))
 have:=Int.mul_nonneg h0 hx.1
 omega
theorem LayF_rest {n:Nat}:∀ (rss:LLI) (rest:List Int),(∀ r∈rss,Part n r)→Rest n rest→Rest n (LayF rss rest).2
 | [],rest,_,h=>h
 | r::rss,rest,hp,h=>LayF_rest rss _ (fun q hq=>hp q (List.mem_cons_of_mem _ hq)) (rest_less (hp r (List.mem_cons_self ..)) h)
theorem LayF_len:∀ (rss:LLI) (rest:List Int),(LayF rss rest).1.length=rss.length
 | [],_=>rfl
 | r::rss,rest=>by
  show (_::(LayF rss _).1).length=_
  rw [List.length_cons,List.length_cons,LayF_len]
theorem flatT_ints (l:List Int):(l.map V.int).all flatT=true:=by
 rw [List.all_eq_true]
 intro v hv
 obtain ⟨_,_,rfl⟩:=List.mem_map.mp hv
 rfl
section
variable {P:Program} {w:World} {K:PySem.W.Frag} {mg:Str→Option Value} {base:Heap}
inductive IspOften (vs:List V) (H:Hp) (Q:VK) (E:XK):Prop
 | mk (x y:V) (r rest:List Int) (n:Nat) (_:vs=[x,y]) (_:IT H x r) (_:IT H y rest) (_:n≤1000) (_:Part n r) (_:Rest n rest) (_:∀ H',Same H H'→Q (.int (oft r rest)) H'):IspOften  vs H Q E
def spOften:Sp:=fun vs H Q E=>IspOften  vs H Q E
theorem sc_often:FnScope ["one", "rest"] ["one", "rest"] (defScope s_often):=⟨rfl,rfl,rfl,by decide +kernel,rfl,by decide +kernel,by decide +kernel⟩
theorem ok_often (F:FunAt K mg "often" s_often ["one", "rest"]) (T:Tx mg):Ok P w K mg base "often" 1 ["one", "rest"] spOften:=by
 refine F.okJ sc_often (fun vs H Q E h=>?_) (fun cdv f A outer s H vs Q E hr h=>?_)
 ·obtain ⟨x,y,r,rest,n,rfl,_⟩:=h
  rfl
 ·obtain ⟨_,_,r,rest,n,rfl,⟨a,rfl,ha⟩,⟨b,rfl,hb⟩,hn,hp,hr',k⟩:=h
  have hz:(3000:Nat)≤sizeLine:=by rw [sizeLine_eq]; decide
  have hll:r.length=rest.length:=by rw [hp.1,hr'.1]
  refine ⟨_,(jb_one (js_ret (jc_minL K rfl T.b_min (ja_cons (j_comp (N:=["here", "there"]) (src:=[none,none]) (ji_zip K rfl T.b_zip (ja_cons (jv 0) (ja_cons (jv 1) ja_nil))) (by show capOk _ _=true; rfl) (by rfl) (by rfl)
 (fun _ _ _ _ _=>(jg_tup K 2 (jgs_cons (jg_name (i:=0) (show (["here", "there"]:List Str).Nodup by decide +kernel) rfl (Or.inl rfl)) (jgs_cons (jg_name (i:=1) (show (["here", "there"]:List Str).Nodup by decide +kernel) rfl (Or.inl rfl)) jgs_nil)))) (fun _ _ _ _ _=>(jf_one (jt_gt (jv 0) j_int))) (fun _ _ _ _ _=>(j_fdiv (jv 1) (jv 0)))) ja_nil)))),?_⟩
  refine ⟨_,rfl,_,rfl,true,true,a,b,rfl,⟨_,SqT.of ha⟩,⟨_,SqT.of hb⟩,?_⟩
  refine comp_zip (k1:=true) (k2:=true) (xs:=r.map V.int) (zs:=rest.map V.int) (by rw [List.length_map,hp.1]; omega) (fun i zs H'=>Same H H'∧zs=(Ofl (r.take i) (rest.take i)).map V.int∧zs.length≤i) ⟨Same.refl H,rfl,Nat.le_refl _⟩ (fun i zs H' _ _ h=>⟨SqT.of (h.1 _ _ ha),SqT.of (h.1 _ _ hb),h.2.2⟩) ?_ ?_
  ·rintro i x z zs H' p hx hz' ⟨s',rfl,hzl⟩ hp'
   obtain ⟨x',hx',rfl⟩:=get_int hx
   obtain ⟨y',hy',rfl⟩:=get_int hz'
   have hi1:i < r.length:=(List.getElem?_eq_some_iff.mp hx').1
   have hxb:=hp.2.1 x' (List.mem_of_getElem? hx')
   have s2:=s'.upd (o:=.tup [.int x',.int y']) hp'
   have eO:Ofl (r.take (i+1)) (rest.take (i+1))=Ofl (r.take i) (rest.take i)++(if 0 < x' then [y' / x'] else []):=by
    rw [List.take_add_one,List.take_add_one,hx',hy']
    exact Ofl_snoc _ _ _ _ (by rw [List.length_take,List.length_take,hll])
   refine ⟨p,[.int x',.int y'],rfl,SqT.of upd_same,rfl,.int x',[.int y'],rfl,.int y',[],rfl,rfl,?_⟩
   refine ⟨⟨rfl,fun j v e=>?_⟩,?_⟩
   ·match j,e with
    | 0,e=>cases e
    | 1,e=>cases e
    | j+2,e=>exact e
   refine ⟨_,rfl,_,_,rfl,rfl,_,rfl,ite2 (fun e=>?_) (fun e=>?_)⟩
   ·have e':0 < x':=of_decide_eq_true e
    refine ⟨_,rfl,_,rfl,_,_,rfl,rfl,⟨e',hxb.2⟩,s2,?_,?_⟩
    ·rw [eO,if_pos e',List.map_append]; rfl
    ·rw [List.length_append]; simpa using hzl
   ·have e':¬ 0 < x':=fun z=>e (decide_eq_true z)
    exact ⟨s2,by rw [eO,if_neg e',List.append_nil],by omega⟩
  ·rintro zs H' ⟨s',rfl,hzl⟩ p hp'
   rw [List.length_map,List.length_map,hll,Nat.min_self,List.take_length,← hll,List.take_length]
   have hne:=Ofl_ne hp hr'.1
   refine ⟨p,_,rfl,SqL.of upd_same,List.length_pos_iff.mpr hne,fun M h1 h2=>?_⟩
   rw [minL_one h1 h2]
   exact k _ (s'.upd hp')
def laidPre (H:Hp) (a:Addr) (z:V) (us:List V) (rss:LLI) (xs:List Int) (n:Nat):Prop:=H a=some (.tup us)∧Its H us rss∧IT H z xs∧us.length≤1000∧1≤n∧n≤1000∧(∀ r∈rss,Part n r)∧Rest n xs
inductive IspLaid (vs:List V) (H:Hp) (Q:VK) (E:XK):Prop
 | mk (a:Addr) (z:V) (us:List V) (rss:LLI) (xs:List Int) (n:Nat) (_:vs=[.ref a,z]) (_:laidPre H a z us rss xs n) (_:(LayF rss xs).2.sum=0) (_:∀ p H',Same H H'→H' p=some (.tup ((LayF rss xs).1.map V.int))→Q (.ref p) H'):IspLaid  vs H Q E
def spLaid:Sp:=fun vs H Q E=>IspLaid  vs H Q E
theorem any_rest {n:Nat} {rs:List Int} (h:Rest n rs):(rs.map V.int).any trV=decide (0 < rs.sum):=by
 rw [Bool.eq_iff_iff,List.any_eq_true,decide_eq_true_eq]
 constructor
 ·rintro ⟨v,hv,e⟩
  obtain ⟨z,hz,rfl⟩:=List.mem_map.mp hv
  have hz0:=h.2 z hz
  have:z≠0:=fun q=>by subst q; cases e
  exact sumP rs (fun x hx=>(h.2 x hx).1) z hz (by omega)
 ·intro hs
  obtain ⟨i,hi,hp⟩:=pos_of_sum (fun x hx=>(h.2 x hx).1) hs
  refine ⟨.int (rs.getD i 0),List.mem_map.mpr ⟨_,gd_mem hi,rfl⟩,?_⟩
  show (rs.getD i 0 != 0)=true
  exact bne_iff_ne.mpr (by omega)
theorem sc_laid:FnScope ["told", "one", "rest", "counts", "part", "many"] ["told", "one"] (defScope s_laid):=⟨rfl,rfl,rfl,by decide +kernel,rfl,by decide +kernel,by decide +kernel⟩
theorem ok_laid (F:FunAt K mg "laid" s_laid ["told", "one"]) (T:Tx mg) (O_often:Ok P w K mg base "often" 1 ["one", "rest"] spOften) (O_minus:Ok P w K mg base "minus" 1 ["one", "other"] (spZip fun a b=>a - b)) (O_times:Ok P w K mg base "times" 1 ["many", "one"] spTimes):Ok P w K mg base "laid" 2 ["told", "one"] spLaid:=by
 refine F.okJ sc_laid (fun vs H Q E h=>?_) (fun cdv f A outer s H vs Q E hr h=>?_)
 ·obtain ⟨a,z,us,rss,xs,n,rfl,_⟩:=h
  rfl
 ·obtain ⟨a,z,us,rss,xs,n,rfl,⟨ha,hI,hx,hl,hn1,hn,hP,hR⟩,h0,k⟩:=h
  have hz:(3000:Nat)≤sizeLine:=by rw [sizeLine_eq]; decide
  refine ⟨_,(jb_cons (js_set (i:=2) sc_laid.nd rfl (Or.inl rfl) (jv 1))
 (jb_cons (js_set (i:=3) sc_laid.nd rfl (Or.inl rfl) (j_lst ja_nil))
 (jb_cons (js_for (ji_tup K (jv 0)) (jg_name (i:=4) sc_laid.nd rfl (Or.inl rfl))
 (jb_cons (js_set (i:=5) sc_laid.nd rfl (Or.inl rfl) (j_call O_often (hr.mono (by omega)) rfl (ja_cons (jv 4) (ja_cons (jv 2) ja_nil))))
 (jb_cons (js_set (i:=2) sc_laid.nd rfl (Or.inl rfl) (j_call O_minus (hr.mono (by omega)) rfl (ja_cons (jv 2) (ja_cons (j_call O_times (hr.mono (by omega)) rfl (ja_cons (jv 5) (ja_cons (jv 4) ja_nil))) ja_nil))))
 (jb_one (js_expr (jm_append K (jv 3) (ja_cons (jv 5) ja_nil)))))))
 (jb_cons (js_if (jt_tru K (jc_any K rfl T.b_any (ja_cons (jv 2) ja_nil)))
 (jb_one js_never)
 jb_nil)
 (jb_one (js_ret (jc_tuple K rfl T.b_tuple (ja_cons (jv 3) ja_nil)))))))),?_⟩
  refine ⟨_,rfl,?_⟩
  dsimp only [gName]
  refine ⟨Nat.zero_le _,fun pc hpc=>?_⟩
  have hfr:=hpc
  have s1:=(Same.refl H).upd (o:=.lst []) hpc
  have e1:upd H pc (.lst []) pc=some (.lst []):=upd_same
  have hx1:=hx.same s1
  generalize upd H pc (.lst [])=H1 at s1 e1 hx1
  dsimp only [gName]
  refine ⟨_,rfl,a,rfl,⟨_,SqT.of (s1 _ _ ha)⟩,?_⟩
  refine for_tup (K:=K) (a:=a) (xs:=us) (fun i σ H'=>Ex5 fun (v:V) (o4 o5:Option V) (rs cs:List Int)=>An8 (σ=[some (.ref a),some z,some v,some (.ref pc),o4,o5]) (Same H H') (IT H' v rs) (Rest n rs) (H' pc=some (.lst (cs.map V.int))) (cs.length=i) (cs++(LayF (rss.drop i) rs).1=(LayF rss xs).1) ((LayF (rss.drop i) rs).2=(LayF rss xs).2))
   ⟨z,none,none,xs,[],rfl,s1,hx1,hR,e1,rfl,rfl,rfl⟩ (fun i σ H' _ h=>by obtain ⟨_,_,_,_,_,_,s',_⟩:=h; exact SqT.of (s' _ _ ha)) ?_ ?_
  ·rintro i x σ H' hxi ⟨v,o4,o5,rs,cs,rfl,s',hv,hRs,hc,hcl,hL1,hL2⟩
   have hil:i < us.length:=(List.getElem?_eq_some_iff.mp hxi).1
   obtain ⟨r,hr1,hri,hxr⟩:=hI.mem hxi
   have hPr:=hP r hr1
   rw [drop_cons hri] at hL1 hL2
   have hm:=oft_ok hPr hRs
   dsimp only [gName]
   refine ⟨_,rfl,_,rfl,x,v,r,rs,n,rfl,hxr.same s',hv,hn,hPr,hRs,fun H4 s4=>?_⟩
   dsimp only [gName]
   refine ⟨_,rfl,_,rfl,_,rfl,oft r rs,x,r,rfl,(hxr.same s').same s4,by rw [hPr.1]; omega,hm.1,by omega,fun v5 H5 s5 hv5=>?_⟩
   refine ⟨v,v5,rs,_,rfl,(hv.same s4).same s5,hv5,by rw [hRs.1]; omega,fun v6 H6 s6 hv6=>?_⟩
   dsimp only [gName]
   have s46:=(s4.trans s5).trans s6
   have hc6:=s46 _ _ hc
   refine ⟨_,rfl,.inl ⟨rfl,_,SqL.of hc6⟩,_,rfl,pc,_,_,rfl,rfl,hc6,by rw [List.length_map]; omega,?_⟩
   refine ⟨v6,_,_,less rs r (oft r rs),cs++[oft r rs],rfl,fun b u e=>by rw [upd_ne (ne_of_none e hfr)]; exact (s'.trans s46) b u e,IT.put hv6 hc6,rest_less hPr hRs,by rw [upd_same,List.map_append]; rfl,by simp [hcl],?_,hL2⟩
   rw [List.append_assoc]
   exact hL1
  ·rintro σ H' ⟨v,o4,o5,rs,cs,rfl,s',hv,hRs,hc,hcl,hL1,hL2⟩
   rw [hI.1,List.drop_length] at hL1 hL2
   change cs++[]=_ at hL1
   rw [List.append_nil] at hL1
   change rs=_ at hL2
   obtain ⟨va,rfl,hva⟩:=hv
   refine ⟨_,rfl,true,va,_,rfl,SqT.of hva,flatT_ints _,?_⟩
   rw [any_rest hRs,hL2]
   rw [decide_eq_false (by omega)]
   refine ⟨false,rfl,iteF ?_⟩
   refine ⟨_,rfl,pc,_,rfl,.inl ⟨SqL.of hc,fun q hq=>?_⟩⟩
   rw [hL1]
   exact k q _ (s'.upd hq) upd_same
end
theorem less_eq {rest r:List Int} {m:Int} (h:rest.length=r.length) {s:List Int}:dot s (less rest r m)=dot s rest - m*dot s r:=by
 unfold less
 induction s generalizing rest r with
 | nil=>simp [dot]
 | cons a s ih =>
  cases rest with
  | nil =>
   cases r with
   | nil=>simp [dot]
   | cons _ _=>cases h
  | cons x rest =>
   cases r with
   | nil=>cases h
   | cons y r =>
    rw [List.map_cons,List.zipWith_cons_cons,dot_cons,dot_cons,dot_cons,ih (by simpa using h),Int.mul_sub,Int.mul_add]
    have:a*(m*y)=m*(a*y):=by rw [← Int.mul_assoc,Int.mul_comm a m,Int.mul_assoc]
    omega
theorem less_under {n:Nat} {r rest:List Int} (hp:Part n r) (hr:Rest n rest):Under (less rest r (oft r rest)) rest:=by
 have hl:rest.length=r.length:=by rw [hr.1,hp.1]
 refine ⟨by rw [less_len hl]; exact hl.symm,fun j hj=>?_⟩
 rw [less_at hl]
 have hx:0≤r.getD j 0:=nn_at (fun x hx=>(hp.2.1 x hx).1) j
 have:=Int.mul_nonneg (oft_ok hp hr).1 hx
 omega
theorem less_not {n:Nat} {r rest:List Int} (hp:Part n r) (hr:Rest n rest):¬ Under r (less rest r (oft r rest)):=by
 intro hU
 have hl:rest.length=r.length:=by rw [hr.1,hp.1]
 obtain ⟨h1,_⟩:=minL_mem (Ofl_ne hp hr.1)
 obtain ⟨i,i1,i2,i3,i4⟩:=Ofl_mem h1
 have h2:=hU.2 i (by rw [less_len hl]; exact i1)
 rw [less_at hl,show oft r rest=rest.getD i 0 / r.getD i 0 from i4] at h2
 have h3:=Int.emod_lt_of_pos (rest.getD i 0) i3
 have h4:=Int.mul_ediv_add_emod (rest.getD i 0) (r.getD i 0)
 rw [Int.mul_comm] at h4
 omega
theorem lay_left {n:Nat}:∀ (tss:LLI) (rest:List Int),(∀ r∈tss,Part n r)→Rest n rest→Under (LayF tss rest).2 rest∧∀ t∈tss,¬ Under t (LayF tss rest).2
 | [],rest,_,_=>⟨Under.refl _,fun _ z=>nomatch z⟩
 | r::tss,rest,hp,hr=>by
  have hpr:=hp r List.mem_cons_self
  obtain ⟨h1,h2⟩:=lay_left tss (less rest r (oft r rest)) (fun q hq=>hp q (List.mem_cons_of_mem _ hq)) (rest_less hpr hr)
  refine ⟨h1.trans (less_under hpr hr),fun t ht=>?_⟩
  rcases List.mem_cons.mp ht with rfl | z
  ·exact fun hU=>less_not hpr hr (Under.trans hU h1)
  ·exact h2 t z
theorem lay_ans {n:Nat} {rss:LLI}:∀ (tss:LLI) (rest:List Int),(∀ r∈tss,Part n r∧Ans rss r=true)→Rest n rest→Ans rss rest=true→Ans rss (LayF tss rest).2=true
 | [],rest,_,_,h=>h
 | r::tss,rest,hp,hr,h=>by
  obtain ⟨hpr,hra⟩:=hp r List.mem_cons_self
  refine lay_ans tss _ (fun q hq=>hp q (List.mem_cons_of_mem _ hq)) (rest_less hpr hr) ?_
  rw [ans_iff] at h hra ⊢
  intro s hs
  rw [less_eq (by rw [hr.1,hpr.1]),h s hs,hra s hs]
  omega
theorem lay_zero {rss tss:LLI} {cs:List (Option Int)} {v:List Int} (hL:∀ v,v∈tss↔Least rss cs v) (hp:∀ r∈tss,Part cs.length r) (hr:Rest cs.length v) (ha:Ans rss v=true) (hw:Wi cs v=true):(LayF tss v).2.sum=0:=by
 obtain ⟨h1,h2⟩:=lay_left tss v hp hr
 have h3:=LayF_rest tss v hp hr
 have h4:=lay_ans tss v (fun r z=>⟨hp r z,((hL r).mp z).an.ans⟩) hr ha
 have h5:=sum_nn _ fun x hx=>(h3.2 x hx).1
 refine Classical.byContradiction fun hne=>?_
 obtain ⟨a,hla,hU⟩:=exists_least (rss:=rss) (cs:=cs) (LayF tss v).2.sum.toNat (by omega) ⟨h3.1,fun x hx=>(h3.2 x hx).1,h4,by omega⟩ (wi_mono hr.1 hw h1)
 exact h2 a ((hL a).mpr hla) hU
def accF (acc:List Int):LLI→List Int→List Int
 | t::ts,c::cs=>accF (List.zipWith (fun a b=>a+c*b) acc t) ts cs
 | _,_=>acc
theorem accF_ok {n:Nat}:∀ (tss:LLI) (acc rest:List Int),(∀ r∈tss,r.length=n)→rest.length=n→acc.length=n→(accF acc tss (LayF tss rest).1).length=n∧∀ j,(accF acc tss (LayF tss rest).1).getD j 0+(LayF tss rest).2.getD j 0=acc.getD j 0+rest.getD j 0
 | [],acc,rest,_,_,ha=>⟨ha,fun j=>rfl⟩
 | r::tss,acc,rest,hp,hr,ha=>by
  have hrl:=hp r List.mem_cons_self
  have hl:rest.length=r.length:=by rw [hr,hrl]
  obtain ⟨h1,h2⟩:=accF_ok tss (List.zipWith (fun a b=>a+oft r rest*b) acc r) (less rest r (oft r rest)) (fun q hq=>hp q (List.mem_cons_of_mem _ hq)) (by rw [less_len hl,hrl]) (by rw [List.length_zipWith]; omega)
  refine ⟨h1,fun j=>(h2 j).trans ?_⟩
  rw [zip_at (g:=fun a b=>a+oft r rest*b) (by rw [ha,hrl]) (by simp),less_at hl]
  omega
theorem accF_snoc:∀ (ts:LLI) (cs:List Int) (acc t:List Int) (c:Int),ts.length=cs.length→accF acc (ts++[t]) (cs++[c])=List.zipWith (fun a b=>a+c*b) (accF acc ts cs) t
 | [],[],acc,t,c,_=>rfl
 | r::ts,d::cs,acc,t,c,h=>accF_snoc ts cs _ t c (by simpa using h)
theorem lay_sum {n:Nat} {tss:LLI} {v:List Int} (hp:∀ r∈tss,Part n r) (hr:Rest n v) (h0:(LayF tss v).2.sum=0):accF (List.replicate n 0) tss (LayF tss v).1=v:=by
 obtain ⟨h1,h2⟩:=accF_ok tss (List.replicate n 0) v (fun r z=>(hp r z).1) hr.1 List.length_replicate
 have h3:=LayF_rest tss v hp hr
 have h4:=sum_zero (n:=n) ⟨h3.1,fun x hx=>(h3.2 x hx).1⟩ (by omega)
 refine ext_at (by rw [h1,hr.1]) fun j _=>?_
 have:=h2 j
 have z:∀ j,(List.replicate n (0:Int)).getD j 0=0:=fun j=>by
  rw [List.getD_eq_getElem?_getD,List.getElem?_replicate]
  split <;> rfl
 rw [h4,z] at this
 omega
theorem LayF_nn {n:Nat}:∀ (tss:LLI) (rest:List Int),(∀ r∈tss,Part n r)→Rest n rest→∀ c∈(LayF tss rest).1,0≤c∧c < 2 ^ 62
 | [],_,_,_=>fun _ z=>nomatch z
 | r::tss,rest,hp,hr=>fun c hc=>by
  have hpr:=hp r List.mem_cons_self
  rcases List.mem_cons.mp hc with rfl | z
  ·have:=oft_ok hpr hr
   exact ⟨this.1,this.2.1⟩
  ·exact LayF_nn tss _ (fun q hq=>hp q (List.mem_cons_of_mem _ hq)) (rest_less hpr hr) c z
section
variable {P:Program} {w:World} {K:PySem.W.Frag} {mg:Str→Option Value} {base:Heap}
theorem flat_repI (n:Nat):(List.replicate n [V.int 0]).flatten=(List.replicate n (0:Int)).map V.int:=by
 induction n with
 | zero=>rfl
 | succ n ih=>rw [List.replicate_succ,List.flatten_cons,ih,List.replicate_succ]; rfl
inductive IspIsLaid (vs:List V) (H:Hp) (Q:VK) (E:XK):Prop
 | mk (t:Addr) (y:V) (us:List V) (tss:LLI) (ys:List Int) (n:Nat) (_:vs=[.ref t,y]) (_:laidPre H t y us tss ys n) (_:(LayF tss ys).2.sum=0) (_:∀ H',Same H H'→Q (.bl true) H'):IspIsLaid  vs H Q E
def spIsLaid:Sp:=fun vs H Q E=>IspIsLaid  vs H Q E
theorem sc__law_is_laid:FnScope ["_law_told", "_law_one", "_law_counts", "_law_found", "_law_part", "_law_many"] ["_law_told", "_law_one"] (defScope s__law_is_laid):=⟨rfl,rfl,rfl,by decide +kernel,rfl,by decide +kernel,by decide +kernel⟩
theorem ok_is_laid (F:FunAt K mg "_law_is_laid" s__law_is_laid ["_law_told", "_law_one"]) (T:Tx mg) (O_laid:Ok P w K mg base "laid" 2 ["told", "one"] spLaid):Ok P w K mg base "_law_is_laid" 3 ["_law_told", "_law_one"] spIsLaid:=by
 refine F.okJ sc__law_is_laid (fun vs H Q E h=>?_) (fun cdv f A outer s H vs Q E hr h=>?_)
 ·obtain ⟨t,y,us,tss,ys,n,rfl,_⟩:=h
  rfl
 ·obtain ⟨t,y,us,tss,ys,n,rfl,hpre,h0,k⟩:=h
  have hu:=hr.u60
  have hz:(3000:Nat)≤sizeLine:=by rw [sizeLine_eq]; decide
  obtain ⟨ht,hI,hy,hul,n1,n2,hP,hR⟩:=id hpre
  obtain ⟨ya,rfl,hya⟩:=id hy
  have hcl:(LayF tss ys).1.length=us.length:=by rw [LayF_len,hI.1]
  refine ⟨_,(jb_cons (js_set (i:=2) sc__law_is_laid.nd rfl (Or.inl rfl) (j_call O_laid (hr.mono (by omega)) rfl (ja_cons (jv 0) (ja_cons (jv 1) ja_nil))))
 (jb_cons (js_if (jt_w (jw_or (jt_not (jt_tru K (jc_isinstance K rfl T.b_isinstance (ja_cons (jv 2) (ja_cons (j_bltn (v:=.ty "tuple") rfl T.b_tuple bb_tuple rfl) ja_nil))))) (jw_or1 (jt_ne (jc_len K rfl T.b_len (ja_cons (jv 2) ja_nil)) (jc_len K rfl T.b_len (ja_cons (jv 0) ja_nil))))))
 (jb_one (js_ret j_bl))
 jb_nil)
 (jb_cons (js_set (i:=3) sc__law_is_laid.nd rfl (Or.inl rfl) (j_rep (j_lst (ja_cons j_int ja_nil)) (jc_len K rfl T.b_len (ja_cons (jv 1) ja_nil))))
 (jb_cons (js_for (ji_zip K rfl T.b_zip (ja_cons (jv 0) (ja_cons (jv 2) ja_nil))) (jg_tup K 2 (jgs_cons (jg_name (i:=4) sc__law_is_laid.nd rfl (Or.inl rfl)) (jgs_cons (jg_name (i:=5) sc__law_is_laid.nd rfl (Or.inr rfl)) jgs_nil)))
 (jb_cons (js_if (jt_w (jw_or (jt_not (jt_tru K (jc_isinstance K rfl T.b_isinstance (ja_cons (jv 5) (ja_cons (j_bltn (v:=.ty "int") rfl T.b_int bb_int rfl) ja_nil))))) (jw_or (jt_tru K (jc_isinstance K rfl T.b_isinstance (ja_cons (jv 5) (ja_cons (j_bltn (v:=.ty "bool") rfl T.b_bool bb_bool rfl) ja_nil)))) (jw_or1 (jt_lt (jv 5) j_int)))))
 (jb_one (js_ret j_bl))
 jb_nil)
 (jb_one (js_setC (i:=3) sc__law_is_laid.nd rfl (Or.inl rfl) (N:=["_law_have", "_law_number", "_law_many"]) (src:=[none,none,some 5]) (ji_zip K rfl T.b_zip (ja_cons (jv 3) (ja_cons (jv 4) ja_nil))) (by show capOk _ _=true; rfl) (by rfl) (by rfl)
 (fun _ _ _ _ _=>(jg_tup K 2 (jgs_cons (jg_name (i:=0) (show (["_law_have", "_law_number", "_law_many"]:List Str).Nodup by decide +kernel) rfl (Or.inl rfl)) (jgs_cons (jg_name (i:=1) (show (["_law_have", "_law_number", "_law_many"]:List Str).Nodup by decide +kernel) rfl (Or.inl rfl)) jgs_nil)))) (fun _ _ _ _ _=>jf_nil) (fun _ _ _ _ _=>(j_add (jv 0) (j_mul (jv 2) (jv 1))))))))
 (jb_one (js_ret (jv_eqK K hu (jc_tuple K rfl T.b_tuple (ja_cons (jv 3) ja_nil)) (jv 1)))))))),?_⟩
  refine ⟨_,rfl,_,rfl,t,_,us,tss,ys,n,rfl,hpre,h0,fun p H1 s1 hp=>?_⟩
  try dsimp only [gName,List.set]
  refine ⟨_,rfl,_,_,_,true,rfl,.tup hp,rfl,_,rfl,iteF ?_⟩
  refine ⟨_,rfl,_,_,rfl,.inr (SqT.of hp),_,rfl,_,_,rfl,.inr (SqT.of (s1 _ _ ht)),rfl,_,rfl,?_⟩
  rw [show decide (V.int (((LayF tss ys).1.map V.int).length:Int)=V.int (us.length:Int))=true from decide_eq_true (by rw [List.length_map,hcl])]
  refine iteF ?_
  refine ⟨by show 1≤sizeLine; omega,fun p1 hp1=>⟨_,rfl,ya,_,rfl,.inr (SqT.of (upd_keep (s1 _ _ hya) hp1)),p1,_,_,rfl,rfl,upd_same,by rw [List.length_map,hR.1]; omega,by rw [List.length_map,hR.1]; omega,?_,fun pf hpf=>?_⟩⟩
  ·rw [List.length_map]
   show 1*((ys.length:Int)).toNat≤_
   rw [hR.1]
   omega
  rw [List.length_map,flat_repI,Int.toNat_natCast,hR.1]
  try dsimp only [gName,List.set]
  have s2:=((Same.refl H1).upd (o:=.lst [.int 0]) hp1).upd (o:=.lst ((List.replicate n (0:Int)).map V.int)) hpf
  have e2:upd (upd H1 p1 (.lst [.int 0])) pf (.lst ((List.replicate n (0:Int)).map V.int)) pf=some (.lst ((List.replicate n (0:Int)).map V.int)):=upd_same
  generalize upd (upd H1 p1 (.lst [.int 0])) pf (.lst ((List.replicate n (0:Int)).map V.int))=H2 at s2 e2
  have s12:=s1.trans s2
  refine ⟨_,rfl,_,rfl,true,true,t,p,rfl,⟨_,SqT.of (s12 _ _ ht)⟩,⟨_,SqT.of (s2 _ _ hp)⟩,?_⟩
  refine for_zip (K:=K) (k1:=true) (k2:=true) (a:=t) (b:=p) (xs:=us) (zs:=(LayF tss ys).1.map V.int) (fun i σ H'=>Ex4 fun (l:Addr) (o4 o5:Option V) (fs:List Int)=>An5 (σ=[some (.ref t),some (.ref ya),some (.ref p),some (.ref l),o4,o5]) (Same H1 H') (H' l=some (.lst (fs.map V.int))) (fs.length=n) (fs=accF (List.replicate n 0) (tss.take i) ((LayF tss ys).1.take i)))
   ⟨pf,none,none,_,rfl,s2,e2,List.length_replicate,rfl⟩ (fun i σ H' _ _ h=>by obtain ⟨_,_,_,_,_,s',_⟩:=h; exact ⟨SqT.of (s' _ _ (s1 _ _ ht)),SqT.of (s' _ _ hp)⟩) ?_ ?_
  ·rintro i x z σ H3 p3 hx hz' ⟨l,o4,o5,fs,rfl,s3,e3,hfl,hfs⟩ hp3
   obtain ⟨r,hr1,hr2,hr3⟩:=hI.mem hx
   obtain ⟨c,hc,rfl⟩:=get_int hz'
   obtain ⟨c0,c1⟩:=LayF_nn tss ys hP hR c (List.mem_of_getElem? hc)
   obtain ⟨xa,rfl,hxa⟩:=hr3
   have s4:=s3.upd (o:=.tup [.ref xa,.int c]) hp3
   have e4:=((Same.refl H3).upd (o:=.tup [.ref xa,.int c]) hp3) _ _ e3
   refine ⟨p3,[.ref xa,.int c],rfl,SqT.of upd_same,rfl,.ref xa,[.int c],rfl,.int c,[],rfl,rfl,?_⟩
   generalize upd H3 p3 (.tup [.ref xa,.int c])=H4 at s4 e4
   try dsimp only [gName,List.set]
   have hxa4:=(s1.trans s4) _ _ hxa
   have hrl:=(hP r hr1).1
   refine ⟨_,rfl,_,_,_,true,rfl,.int c,rfl,_,rfl,iteF ?_⟩
   refine ⟨_,rfl,_,_,_,false,rfl,.int c,rfl,_,rfl,iteF ?_⟩
   refine ⟨_,rfl,_,_,rfl,rfl,_,rfl,?_⟩
   rw [show decide (c < 0)=false from decide_eq_false (by omega)]
   refine iteF ?_
   refine ⟨_,rfl,_,rfl,false,true,l,xa,rfl,⟨_,SqL.of e4⟩,⟨_,SqT.of hxa4⟩,?_⟩
   refine zip_intsM (caps:=[some (.int c)]) (fun x y=>V.int (x+c*y)) (by omega) (fun H' s=>⟨SqL.of (s _ _ e4),SqT.of (s _ _ hxa4)⟩) rfl (fun x y H1 Q1 hx hy _ q=>?_) fun H5 p5 s5 hp5=>?_
   ·have:=(hP r hr1).2.1 y hy
    exact ⟨_,rfl,_,rfl,_,rfl,_,_,rfl,rfl,.inr ⟨by omega,by omega⟩,_,_,rfl,rfl,q⟩
   rw [zip_map (fun x y=>x+c*y) V.int]
   try dsimp only [gName,List.set]
   have s6:=s5.upd (o:=.lst ((List.zipWith (fun x y=>x+c*y) fs r).map V.int)) hp5
   refine ⟨p5,_,_,_,rfl,s4.trans s6,upd_same,by rw [List.length_zipWith]; omega,?_⟩
   rw [List.take_add_one,List.take_add_one,hr2,hc,hfs]
   refine (accF_snoc _ _ _ r c ?_).symm
   rw [List.length_take,List.length_take,LayF_len]
  ·rintro σ H3 ⟨l,o4,o5,fs,rfl,s3,e3,hfl,hfs⟩
   rw [List.length_map,hcl,Nat.min_self,List.take_of_length_le (by rw [hI.1]; exact Nat.le_refl _),List.take_of_length_le (by rw [hcl]; exact Nat.le_refl _),lay_sum hP hR h0] at hfs
   subst hfs
   refine ⟨_,rfl,l,_,rfl,.inl ⟨SqL.of e3,fun q hq=>?_⟩⟩
   have s4:=(Same.refl H3).upd (o:=.tup (fs.map V.int)) hq
   have hE:EqV K (upd H3 q (.tup (fs.map V.int))) 1 (.ref q) (.ref ya) (decide (fs=fs)):=EqV.ints (k:=true) (SqT.of upd_same) (SqT.of ((s1.trans (s3.trans s4)) _ _ hya))
   refine ⟨_,rfl,1,_,by decide,hE,⟨_,_,rfl,rfl⟩,?_⟩
   rw [decide_eq_true rfl]
   exact k _ (s1.trans (s3.trans s4))
theorem room_at (n:Nat) (h1:1≤n) (h7:n≤7):∃ m:Nat,atI [V.int 5,.int 5,.int 5,.int 5,.int 3,.int 2,.int 2] ((n:Int) - 1)=some (.int m)∧1≤m∧m≤5∧m ^ n≤625:=by
 have:n=1∨n=2∨n=3∨n=4∨n=5∨n=6∨n=7:=by omega
 rcases this with rfl | rfl | rfl | rfl | rfl | rfl | rfl
 ·exact ⟨5,rfl,by decide,by decide,by decide⟩
 ·exact ⟨5,rfl,by decide,by decide,by decide⟩
 ·exact ⟨5,rfl,by decide,by decide,by decide⟩
 ·exact ⟨5,rfl,by decide,by decide,by decide⟩
 ·exact ⟨3,rfl,by decide,by decide,by decide⟩
 ·exact ⟨2,rfl,by decide,by decide,by decide⟩
 ·exact ⟨2,rfl,by decide,by decide,by decide⟩
theorem any_sums (rss:LLI) (x:List Int):(!((rss.map fun r=>dot r x).map V.int).any trV)=Ans rss x:=by
 rw [Bool.eq_iff_iff,ans_iff,Bool.not_eq_true',List.any_eq_false]
 constructor
 ·intro h r hr
  have:=h (.int (dot r x)) (List.mem_map.mpr ⟨_,List.mem_map.mpr ⟨r,hr,rfl⟩,rfl⟩)
  have:(dot r x != 0)≠true:=this
  simpa using this
 ·intro h v hv
  obtain ⟨z,hz,rfl⟩:=List.mem_map.mp hv
  obtain ⟨r,hr,rfl⟩:=List.mem_map.mp hz
  rw [h r hr]
  decide
def Bs (H:Hp) (v:V) (rss:LLI) (n:Nat):Prop:=v=.non∨∃ (t:Addr) (zs:List V) (tss:LLI),v=.ref t∧H t=some (.tup zs)∧Its H zs tss∧tss.length≤150∧Vn n 200 tss∧∀ u,u∈tss↔Least rss (List.replicate n none) u
theorem Bs.same {H H':Hp} {v:V} {rss:LLI} {n:Nat} (h:Bs H v rss n) (s:Same H H'):Bs H' v rss n:=by
 rcases h with h | ⟨t,zs,tss,h1,h2,h3,h4⟩
 ·exact .inl h
 ·exact .inr ⟨t,zs,tss,h1,s _ _ h2,h3.same s,h4⟩
inductive IspBase (vs:List V) (H:Hp) (Q:VK) (E:XK):Prop
 | mk (ra:Addr) (us:List V) (rss:LLI) (n:Nat) (wi:Int) (_:vs=[.ref ra,.int wi]) (_:wi=n) (_:Ry H ra us rss n) (_:1≤n) (_:n≤7) (_:∀ v H',Same H H'→Bs H' v rss n→Q v H'):IspBase  vs H Q E
def spBase:Sp:=fun vs H Q E=>IspBase  vs H Q E
theorem ok_base {x:Str} {k:Nat} {ps:List Str} (O:Ok P w K mg base x k ps spUnbound):Ok P w K mg base x k ps spBase:=O.imp fun vs H Q E ⟨ra,us,rss,n,wi,h1,h2,h3,h4,h5,h6⟩=>⟨ra,us,rss,n,wi,h1,h2,h3,h4,h5,fun H' s=>h6 _ H' s (.inl rfl),fun t zs tss H' s e1 e2 e3 e4 e5=>h6 _ H' s (.inr ⟨t,zs,tss,rfl,e1,e2,e3,e4,e5⟩)⟩
theorem drawsT {src:List (Option Nat)} {σ caps:L2.St} {Q:VK} {m0:Nat} {H:Hp} {a y:Addr} {ys:List Int} {te:TE} (R:Int→Prop) (hn:ys.length≤1000) (hy:H y=some (.tup (ys.map V.int))) (hsrc:blkSt src σ=none::caps) (hP:PotAt H a m0)
  (hte:∀ (v:V) (i:Nat) (H':Hp) (N:VK),i < ys.length→PotAt H' a (m0+i)→(∀ r H'',R r→PotAt H'' a (m0+i+1)→Off [a] H' H''→N (.int r) H'')→te (some v::caps) H' N)
  (hd:∀ H' p (xs:List Int),xs.length=ys.length→(∀ x∈xs,R x)→PotAt H' a (m0+ys.length)→Off [a] H H'→H' p=none→Q (.ref p) (upd H' p (.lst (xs.map V.int)))):CompW src (gName 0) tTrue te σ Q (Itt K y) H:=by
 have hz:(3000:Nat)≤sizeLine:=by rw [sizeLine_eq]; decide
 refine comp_tup (xs:=ys.map V.int) (by rw [List.length_map]; omega) (fun i zs H'=>Ex1 fun (xs:List Int)=>An5 (zs=xs.map V.int) (xs.length=i) ((∀ x∈xs,R x)) (PotAt H' a (m0+i)) (Off [a] H H')) ⟨[],rfl,rfl,(fun _ z=>nomatch z),hP,Off.refl _ _⟩ (fun i zs H' _ h=>by obtain ⟨xs,e,e2,_,_,off⟩:=h; exact ⟨SqT.of (off _ _ (potne hP hy) hy),by rw [e,List.length_map,e2]; exact Nat.le_refl _⟩) ?_ ?_
 ·rintro i x zs H' hx ⟨xs,rfl,e2,hR,hP',off⟩
  show Sub _ ((blkSt src σ).set 0 (some x))∧_
  rw [hsrc]
  have hi:=(List.getElem?_eq_some_iff.mp hx).1
  rw [List.length_map] at hi
  refine ⟨Sub.one,hte x i H' _ hi hP' fun r H'' hr hP'' off'=>⟨xs++[r],by simp,by simp [e2],fun x hx=>?_,hP'',off.trans off'⟩⟩
  rcases List.mem_append.mp hx with q | q
  ·exact hR x q
  ·rw [List.mem_singleton.mp q]; exact hr
 ·rintro zs H' ⟨xs,rfl,e2,hR,hP',off⟩ p hp
  rw [List.length_map] at e2 hP'
  exact hd H' p xs e2 hR hP' off hp
theorem sc_law:FnScope ["_law_script", "_law_start", "_law_rows", "_law_base", "_law_k", "_law_draw", "_law_room", "_law_caps", "_law_due", "_law_told", "_law_one"] ["_law_script"] (defScope s_law):=⟨rfl,rfl,rfl,by decide +kernel,rfl,by decide +kernel,by decide +kernel⟩
theorem ok_law {f:Addr} {fd:FuncData} (F':Fun K "law" "law" s_law f fd) (T:Tx mg) (O__law_pot:Ok P w K mg base "_law_pot" 2 ["_law_script", "_law_k"] (spPot K)) (O__law_take:Ok P w K mg base "_law_take" 1 ["_law_pot_here", "_law_many"] spTake) (O__law_system:Ok P w K mg base "_law_system" 3 ["_law_script"] (spSystem K)) (O__law_unbound:Ok P w K mg base "_law_unbound" 8 ["_law_rows", "_law_width"] spBase) (O__law_box:Ok P w K mg base "_law_box" 1 ["_law_caps"] spBox) (O__law_sums:Ok P w K mg base "_law_sums" 1 ["_law_rows", "_law_one"] spTotals) (O_least:Ok P w K mg base "least" 7 ["rows", "caps", "most"] spLeastN) (O_answers:Ok P w K mg base "answers" 3 ["told", "caps", "most"] spAnswers) (O__law_is_laid:Ok P w K mg base "_law_is_laid" 3 ["_law_told", "_law_one"] spIsLaid) :
  FnOk P w K mg base CX0 9 f fd ["_law_script"] (spLaw K):=by
 refine F'.okJ sc_law (fun vs H Q E h=>?_) (fun cdv A outer s H vs Q E hr h=>?_)
 ·obtain ⟨a,ns,rfl,_⟩:=h
  rfl
 ·obtain ⟨a,ns,rfl,hS,hl,kk⟩:=h
  have hu:=hr.u60
  refine ⟨_,(jb_cons (js_asg (j_call O__law_system (hr.mono (by omega)) rfl (ja_cons (jv 0) ja_nil)) (jg_tup K 2 (jgs_cons (jg_name (i:=1) sc_law.nd rfl (Or.inl rfl)) (jgs_cons (jg_name (i:=2) sc_law.nd rfl (Or.inr rfl)) jgs_nil))))
 (jb_cons (js_set (i:=3) sc_law.nd rfl (Or.inl rfl) (j_call O__law_unbound (hr.mono (by omega)) rfl (ja_cons (jv 2) (ja_cons (jc_len K rfl T.b_len (ja_cons (jv 1) ja_nil)) ja_nil))))
 (jb_cons (js_for (ji_range2 rfl T.b_range (ja_cons j_int (ja_cons (jc_max rfl T.b_max (ja_cons j_int (ja_cons (jc_min rfl T.b_min (ja_cons j_int (ja_cons (jc_len K rfl T.b_len (ja_cons (jv 0) ja_nil)) ja_nil))) ja_nil))) ja_nil))) (jg_name (i:=4) sc_law.nd rfl (Or.inl rfl))
 (jb_cons (js_set (i:=5) sc_law.nd rfl (Or.inr rfl) (j_call O__law_pot (hr.mono (by omega)) rfl (ja_cons (jv 0) (ja_cons (jv 4) ja_nil))))
 (jb_cons (js_set (i:=6) sc_law.nd rfl (Or.inr rfl) (j_ixL K (j_lst (ja_cons j_int (ja_cons j_int (ja_cons j_int (ja_cons j_int (ja_cons j_int (ja_cons j_int (ja_cons j_int ja_nil)))))))) (j_sub (jc_len K rfl T.b_len (ja_cons (jv 1) ja_nil)) j_int)))
 (jb_cons (js_set (i:=7) sc_law.nd rfl (Or.inl rfl) (jc_tuple K rfl T.b_tuple (ja_cons (j_comp (N:=["_law_number", "_law_draw", "_law_room"]) (src:=[none,some 5,some 6]) (ji_tup K (jv 1)) (by show capOk _ _=true; rfl) (by rfl) (by rfl)
 (fun _ _ _ _ _=>(jg_name (i:=0) (show (["_law_number", "_law_draw", "_law_room"]:List Str).Nodup by decide +kernel) rfl (Or.inl rfl))) (fun _ _ _ _ _=>jf_nil) (fun _ _ _ _ _=>(j_call O__law_take (hr.mono (by omega)) rfl (ja_cons (jv 1) (ja_cons (jv 2) ja_nil))))) ja_nil)))
 (jb_cons (js_setC (i:=8) sc_law.nd rfl (Or.inl rfl) (N:=["_law_one", "_law_rows"]) (src:=[none,some 2]) (ji_list K (j_call O__law_box (hr.mono (by omega)) rfl (ja_cons (jv 7) ja_nil))) (by show capOk _ _=true; rfl) (by rfl) (by rfl)
 (fun _ _ _ _ _=>(jg_name (i:=0) (show (["_law_one", "_law_rows"]:List Str).Nodup by decide +kernel) rfl (Or.inl rfl))) (fun _ _ _ _ _=>(jf_one (jt_not (jt_tru K (jc_any K rfl T.b_any (ja_cons (j_call O__law_sums (hr.mono (by omega)) rfl (ja_cons (jv 1) (ja_cons (jv 0) ja_nil))) ja_nil)))))) (fun _ _ _ _ _=>(jv 0)))
 (jb_cons (js_set (i:=9) sc_law.nd rfl (Or.inl rfl) (j_ixT K (j_call O_least (hr.mono (by omega)) rfl (ja_cons (jv 2) (ja_cons (jv 7) (ja_cons j_int ja_nil)))) j_int))
 (jb_cons (js_if (jt_neK K hu (j_call O_answers (hr.mono (by omega)) rfl (ja_cons (jv 9) (ja_cons (jv 7) (ja_cons j_int ja_nil)))) (jc_tuple K rfl T.b_tuple (ja_cons (jv 8) ja_nil)))
 (jb_one (js_ret j_bl))
 jb_nil)
 (jb_one (js_for (ji_list K (jv 8)) (jg_name (i:=10) sc_law.nd rfl (Or.inl rfl))
 (jb_cons (js_if (jt_not (jt_tru K (j_call O__law_is_laid (hr.mono (by omega)) rfl (ja_cons (jv 9) (ja_cons (jv 10) ja_nil)))))
 (jb_one (js_ret j_bl))
 jb_nil)
 (jb_one (js_if (jt_w (jw_and (jt_notN (jv 3) j_non) (jw_and1 (jt_not (jt_tru K (j_call O__law_is_laid (hr.mono (by omega)) rfl (ja_cons (jv 3) (ja_cons (jv 10) ja_nil))))))))
 (jb_one (js_ret j_bl))
 jb_nil))))))))))))
 (jb_one (js_ret j_bl))))),?_⟩
  have hz:(3000:Nat)≤sizeLine:=by rw [sizeLine_eq]; decide
  refine ⟨_,rfl,a,ns,rfl,hS,fun q ya q4 us xs rss H1 hq hya hx1 hx7 hq4 hI hul hR s1=>?_⟩
  refine ⟨q,_,rfl,SqT.of hq,rfl,.ref ya,[.ref q4],rfl,.ref q4,[],rfl,rfl,?_⟩
  dsimp only [gName]
  have R1:Ry H1 q4 us rss xs.length:=⟨hq4,hI,hul,hR⟩
  refine ⟨_,rfl,_,rfl,ya,_,rfl,.inr (SqT.of hya),q4,us,rss,xs.length,_,rfl,by rw [List.length_map],R1,hx1,hx7,fun bv H2 s2 B2=>?_⟩
  dsimp only [gName]
  have R2:=R1.same s2
  have hya2:=s2 _ _ hya
  have s12:=s1.trans s2
  clear hq hya hq4 hI R1
  refine ⟨_,rfl,a,_,rfl,.inl (s12.seq hS),_,_,rfl,_,_,rfl,_,_,rfl,?_,?_⟩
  ·refine ⟨by decide,by decide,?_,?_⟩
   ·split <;> split <;> omega
   ·split <;> split <;> omega
  generalize hN:Int.toNat _=N
  have hN1:N≤63:=by
   rw [← hN]
   split <;> (try split) <;> omega
  clear hN
  obtain ⟨m,hm0,hm1,hm2,hm3⟩:=room_at xs.length hx1 hx7
  refine for_range (lo:=5) (n:=N) (fun i σ H'=>Ex7 fun o4 o5 o6 o7 o8 o9 o10=>An2 (σ=[some (.ref a),some (.ref ya),some (.ref q4),some bv,o4,o5,o6,o7,o8,o9,o10]) (Same H2 H')) ⟨none,none,none,none,none,none,none,rfl,Same.refl H2⟩ ?_ ?_
  ·rintro i σ H3 hi ⟨o4,o5,o6,o7,o8,o9,o10,rfl,s3⟩
   dsimp only [gName]
   refine ⟨_,rfl,_,rfl,a,ns,_,5+i,rfl,by omega,by omega,(s12.trans s3).seq hS,fun p H4 hp hP4 s4=>?_⟩
   have s24:=s3.trans s4
   have hp2:H2 p=none:=s3.free hp
   dsimp only [gName]
   refine ⟨by show 7≤sizeLine; omega,fun p5 hp5=>?_⟩
   have s5:=(Same.refl H4).upd (o:=.lst [V.int 5,.int 5,.int 5,.int 5,.int 3,.int 2,.int 2]) hp5
   have s25:=s24.trans s5
   refine ⟨_,rfl,ya,_,rfl,.inr (SqT.of (s25 _ _ hya2)),_,_,rfl,rfl,p5,_,_,_,rfl,rfl,SqL.of upd_same,by rw [List.length_map]; exact hm0,?_⟩
   have hP5:=hP4.same s5
   generalize upd H4 p5 (.lst [V.int 5,.int 5,.int 5,.int 5,.int 3,.int 2,.int 2])=H5 at s25 hP5
   clear s5 hP4 s24 s4
   dsimp only [gName]
   refine ⟨_,rfl,ya,rfl,⟨_,SqT.of (s25 _ _ hya2)⟩,?_⟩
   refine drawsT (caps:=[some (.ref p),some (.int m)]) (fun z=>0≤z∧z < m) (by omega) (s25 _ _ hya2) rfl hP5 (fun v j H' N hj hP' q=>⟨_,rfl,_,rfl,p,_,m,rfl,hP',by omega,by omega,by omega,fun r H'' h0 h1 hP'' o''=>q _ H'' ⟨h0,h1⟩ hP'' o''⟩) ?_
   intro H6 p6 cs hcl hcs hP6 off6 hp6
   refine ⟨p6,_,rfl,.inl ⟨SqL.of upd_same,fun c hc=>?_⟩⟩
   have s7:=((Same.refl H6).upd (o:=.lst (cs.map V.int)) hp6).upd (o:=.tup (cs.map V.int)) hc
   have e7:upd (upd H6 p6 (.lst (cs.map V.int))) c (.tup (cs.map V.int)) c=some (.tup (cs.map V.int)):=upd_same
   generalize upd (upd H6 p6 (.lst (cs.map V.int))) c (.tup (cs.map V.int))=H7 at s7 e7
   have s27:Same H2 H7:=(same_fresh s25 hp2 off6).trans s7
   clear s7 s25 hP5 hP6 off6 hp6 hc hp5
   dsimp only [gName]
   refine ⟨_,rfl,c,cs,m,rfl,e7,hcs,hm1,by rw [hcl]; omega,by omega,by omega,fun l8 us8 H8 s8 e8 hI8=>?_⟩
   have s28:=s27.trans s8
   have R8:=R2.same s28
   have hbox:(boxL cs).length≤625:=by
    have:=boxL_len (cs:=cs) (m:=m) (fun c hc=>hcs c hc) cs.length (Nat.le_refl _)
    rw [List.take_length,hcl] at this
    omega
   have hbn:∀ r∈boxL cs,r.length=xs.length∧∀ x∈r,0≤x∧x≤5:=fun r hr'=>by
    obtain ⟨b1,b2,b3⟩:=box_iff.mp hr'
    refine ⟨by rw [b1,hcl],fun x hx=>⟨b2 x hx,?_⟩⟩
    obtain ⟨j,hj,rfl⟩:=List.mem_iff_getElem.mp hx
    have:=((boxL_mem (cs:=cs) cs.length (Nat.le_refl _) r).mp (by rw [List.take_length]; exact hr')).2 j (by omega)
    have h2:cs.getD j 0 < m:=by
     rw [List.getD_eq_getElem?_getD,List.getElem?_eq_getElem (by omega)]
     exact (hcs _ (List.getElem_mem _)).2
    rw [List.getD_eq_getElem?_getD,List.getElem?_eq_getElem hj] at this
    have:=this.2
    change r[j]≤_ at this
    omega
   refine ⟨l8,rfl,⟨_,SqL.of e8⟩,?_⟩
   refine list_keepC (caps:=[some (.ref q4)]) (fun v=>Ans rss v) (by rw [hI8.1]; omega) (fun H' s=>SqL.of (s _ _ e8)) hI8 rfl (fun v r H9 Q9 hr9 hv s9 q9=>?_) fun H9 d ds s9 hd hId=>?_
   ·have R9:=R8.same s9
    refine ⟨_,rfl,_,rfl,q4,v,us,rss,r,rfl,R9.e,R9.I,hv,by have:=R9.l; omega,fun r hr'=>by rw [(R9.R r hr').1]; omega,fun z hz=>by have:=(hbn r hr9).2 z hz; omega,fun p10 H10 s10 e10=>?_⟩
    refine ⟨false,p10,_,rfl,SqL.of e10,flatT_ints _,_,rfl,?_⟩
    show Q9 (!_) _
    rw [any_sums]
    exact q9 _ s10
   have s10:=(Same.refl H9).upd (o:=.lst ds) hd
   have e10:upd H9 d (.lst ds) d=some (.lst ds):=upd_same
   have hI10:=hId.same s10
   have s210:=(s28.trans s9).trans s10
   have e710:=(s8.trans (s9.trans s10)) _ _ e7
   generalize upd H9 d (.lst ds)=H10 at s10 e10 hI10 s210 e710
   clear s9 s8 s28 R8 e8 hI8 hId hd s27 e7 s10
   have R10:=R2.same s210
   dsimp only [gName]
   have hcm:(cs.map some).length=xs.length:=by rw [List.length_map,hcl]
   have Y10:SyAt H10 q4 c rss (cs.map some):=⟨⟨us,R10.e,R10.I,by omega⟩,by rw [e710,List.map_map]; rfl,by omega,by omega,fun r hr'=>⟨by rw [hcm]; exact (R10.R r hr').1,sm_of (R10.R r hr').2⟩⟩
   have hRl:∀ r∈rss,r.length=(cs.map some).length:=fun r hr'=>(Y10.hR r hr').1
   refine ⟨_,rfl,_,rfl,q4,c,rss,_,625,_,rfl,rfl,Y10,by omega,fun f t pp zs tss ws F W k H11 s11 hf ht hIz hpm hri11 hpp hIw hW hWl=>?_,no_overB hRl hbox⟩
   refine ⟨f,_,0,.ref t,rfl,rfl,SqT.of hf,rfl,?_⟩
   dsimp only [gName]
   have hL:∀ v,v∈tss↔Least rss (cs.map some) v:=fun v=>hpm.mem_iff.trans (hW.least hRl v)
   have hTb:∀ v∈tss,v∈boxL cs:=fun v hv=>by
    have:=(hL v).mp hv
    exact box_iff.mpr ⟨by rw [this.an.len,List.length_map],this.an.nn,this.wi⟩
   have hTP:∀ r∈tss,Part xs.length r:=fun r hr'=>⟨(hbn r (hTb r hr')).1,fun x hx=>by have:=(hbn r (hTb r hr')).2 x hx; omega,((hL r).mp hr').an.pos⟩
   have hTl:tss.length≤625:=by
    rw [hpm.length_eq]
    have:=hW.lv.2.2.2
    omega
   have Y11:=Y10.same s11
   have fits:Fits (cs.map some) 625:=fun l nd h=>Nat.le_trans (nd_le l (boxL cs) nd fun v hv=>box_iff.mpr ⟨by rw [(h v hv).1.1,List.length_map],(h v hv).1.2,(h v hv).2⟩) hbox
   have hw0:Wi (cs.map some) (List.replicate (cs.map some).length 0)=true:=by
    have:List.replicate cs.length (0:Int)∈boxL cs:=by
     have:=(boxL_mem (cs:=cs) cs.length (Nat.le_refl _) (List.replicate cs.length 0))
     rw [List.take_length] at this
     refine this.mpr ⟨List.length_replicate,fun j hj=>?_⟩
     rw [List.getD_eq_getElem?_getD,List.getElem?_replicate,if_pos hj,List.getD_eq_getElem?_getD,List.getElem?_eq_getElem hj]
     exact ⟨Int.le_refl _,(hcs _ (List.getElem_mem _)).1⟩
    rw [List.length_map]
    exact (box_iff.mp this).2.2
   refine ⟨_,rfl,_,rfl,t,c,_,625,zs,tss,cs.map some,rfl,rfl,ht,hIz,fun v hv=>⟨⟨by rw [hcm]; exact (hTP v hv).1,fun x hx=>((hTP v hv).2.1 x hx).1⟩,(hTP v hv).2.2⟩,Y11.hc,by omega,by omega,by omega,fits,hw0,fun qa za srt H12 s12 hqa hIa hri12 hnd12 hm12=>?_⟩
   have hdue:srt=(boxL cs).filter fun v=>Ans rss v:=by
    obtain ⟨o1,o2⟩:=box_ord (cs:=cs) cs.length (Nat.le_refl _)
    rw [List.take_length] at o1 o2
    refine rises_eq hri12 (List.Pairwise.filter _ o1) hnd12 (o2.filter _) fun v=>?_
    rw [hm12,List.mem_filter,box_iff]
    constructor
    ·rintro ⟨h1,h2⟩
     have h3:=h1.nv fun t z=>⟨by rw [hcm]; exact (hTP t z).1,fun x hx=>((hTP t z).2.1 x hx).1⟩
     exact ⟨⟨by rw [h3.1,List.length_map],h3.2,h2⟩,h1.ans (rss:=rss) fun t z=>⟨⟨by rw [hcm]; exact (hTP t z).1,fun x hx=>((hTP t z).2.1 x hx).1⟩,((hL t).mp z).an.ans⟩⟩
    ·rintro ⟨⟨h1,h2,h3⟩,h4⟩
     exact ⟨sum_of_ans hRl hL v.sum.toNat v (by omega) ⟨by rw [h1,List.length_map],h2⟩ h4 h3,h3⟩
   subst hdue
   have s1112:=s11.trans s12
   have ed12:=s1112 _ _ e10
   have hd12:=hI10.same s1112
   refine ⟨_,rfl,d,ds,rfl,.inl ⟨SqL.of ed12,fun q13 hq13=>?_⟩⟩
   have s13:=(Same.refl H12).upd (o:=.tup ds) hq13
   have e13:upd H12 q13 (.tup ds) q13=some (.tup ds):=upd_same
   generalize upd H12 q13 (.tup ds)=H13 at s13 e13
   refine ⟨2,_,by decide,EqV.its (k:=true) (SqT.of (s13 _ _ hqa)) (SqT.of e13) (hIa.same s13) (hd12.same s13),⟨_,_,rfl,rfl⟩,_,rfl,?_⟩
   rw [decide_eq_true rfl]
   refine iteF ?_
   have ed13:=s13 _ _ ed12
   have hd13:=hd12.same s13
   have s1113:=s12.trans s13
   have ht13:=s1113 _ _ ht
   have hIz13:=hIz.same s1113
   have s213:=s210.trans (s11.trans s1113)
   have B13:=B2.same s213
   clear s12 s13 hqa hIa e13 hq13 hd12 ed12 Y11 Y10 R10 e710 s11 hf hpp hIw s1112 s1113 ht hIz hI10 e10 hm12 hnd12 hri12
   refine ⟨_,rfl,d,rfl,⟨_,SqL.of ed13⟩,?_⟩
   refine for_list (K:=K) (a:=d) (xs:=ds) (fun j σ H'=>Ex1 fun (o10:Option V)=>An2 (σ=[some (.ref a),some (.ref ya),some (.ref q4),some bv,some (.int (5+i)),some (.ref p),some (.int m),some (.ref c),some (.ref d),some (.ref t),o10]) (Same H13 H')) ⟨_,rfl,Same.refl _⟩ (fun j σ H' _ h=>by obtain ⟨_,_,s'⟩:=h; exact SqL.of (s' _ _ ed13)) ?_ ?_
   ·rintro j x σ H14 hx ⟨o10,rfl,s14⟩
    obtain ⟨r,hr1,hr2,hr3⟩:=hd13.mem hx
    obtain ⟨hrb,hra⟩:=List.mem_filter.mp hr1
    have hrn:=hbn r hrb
    have hrest:Rest xs.length r:=⟨hrn.1,fun x hx=>by have:=hrn.2 x hx; omega⟩
    dsimp only [gName]
    refine ⟨_,rfl,_,rfl,t,x,zs,tss,r,xs.length,rfl,⟨s14 _ _ ht13,hIz13.same s14,hr3.same s14,by rw [hIz13.1]; omega,hx1,by omega,hTP,hrest⟩,lay_zero (cs:=cs.map some) hL (by rw [hcm]; exact hTP) (by rw [hcm]; exact hrest) hra (box_iff.mp hrb).2.2,fun H15 s15=>⟨_,rfl,iteF ?_⟩⟩
    have s1315:=s14.trans s15
    rcases B13 with rfl | ⟨tb,zb,tssb,rfl,hb1,hb2,hb3,hb4,hb5⟩
    ·exact ⟨_,rfl,rfl,_,rfl,iteF ⟨_,rfl,s1315⟩⟩
    ·have hl:(List.replicate xs.length (none:Option Int)).length=xs.length:=List.length_replicate
     have hBP:∀ r∈tssb,Part xs.length r:=fun r hr'=>⟨(hb4 r hr').1,fun x hx=>by have:=(hb4 r hr').2 x hx; omega,((hb5 r).mp hr').an.pos⟩
     refine ⟨_,rfl,rfl,_,rfl,iteT ⟨_,rfl,_,rfl,tb,x,zb,tssb,r,xs.length,rfl,⟨s1315 _ _ hb1,hb2.same s1315,hr3.same s1315,by rw [hb2.1]; omega,hx1,by omega,hBP,hrest⟩,lay_zero (cs:=List.replicate xs.length none) hb5 (by rw [hl]; exact hBP) (by rw [hl]; exact hrest) hra ?_,fun H16 s16=>⟨_,rfl,iteF ?_⟩⟩⟩
     ·rw [wi_iff (by rw [hl]; exact hrn.1)]
      intro k hk
      rw [List.getD_eq_getElem?_getD,List.getElem?_replicate,if_pos (by rw [hl] at hk; exact hk)]
      rfl
     ·exact ⟨_,rfl,s1315.trans s16⟩
   ·rintro σ H14 ⟨o10,rfl,s14⟩
    exact ⟨_,_,_,_,_,_,_,rfl,s213.trans s14⟩
  ·rintro σ H3 ⟨o4,o5,o6,o7,o8,o9,o10,rfl,_⟩
   exact kk H3
end
open PySem.W
theorem all_mk {l:PySem.W.OpenLaw} {w:World} {K:PySem.W.Frag} {h:Heap} {mg:Str→Option Value} {fa:Addr} (X:K.In h) (G:h.Ns mainGlobals mg) (hfa:mg "law" = some (.ref fa))
 (a1:nsIn K mainGlobals "free" = some (some (.ref f1))) (l1:FnL K f1 "free" "free" s_free o1 d1 s1 v1 x1 p1 n1 c1 t1) (c_1:codeIn K c1 "free" = true) (k1:keepIn K (.ref f1)=true)
 (a2:nsIn K mainGlobals "within" = some (some (.ref f2))) (l2:FnL K f2 "within" "within" s_within o2 d2 s2 v2 x2 p2 n2 c2 t2) (c_2:codeIn K c2 "within" = true) (k2:keepIn K (.ref f2)=true)
 (a3:nsIn K mainGlobals "below" = some (some (.ref f3))) (l3:FnL K f3 "below" "below" s_below o3 d3 s3 v3 x3 p3 n3 c3 t3) (c_3:codeIn K c3 "below" = true) (k3:keepIn K (.ref f3)=true)
 (a4:nsIn K mainGlobals "plus" = some (some (.ref f4))) (l4:FnL K f4 "plus" "plus" s_plus o4 d4 s4 v4 x4 p4 n4 c4 t4) (c_4:codeIn K c4 "plus" = true) (k4:keepIn K (.ref f4)=true)
 (a5:nsIn K mainGlobals "minus" = some (some (.ref f5))) (l5:FnL K f5 "minus" "minus" s_minus o5 d5 s5 v5 x5 p5 n5 c5 t5) (c_5:codeIn K c5 "minus" = true) (k5:keepIn K (.ref f5)=true)
 (a6:nsIn K mainGlobals "times" = some (some (.ref f6))) (l6:FnL K f6 "times" "times" s_times o6 d6 s6 v6 x6 p6 n6 c6 t6) (c_6:codeIn K c6 "times" = true) (k6:keepIn K (.ref f6)=true)
 (a7:nsIn K mainGlobals "nought" = some (some (.ref f7))) (l7:FnL K f7 "nought" "nought" s_nought o7 d7 s7 v7 x7 p7 n7 c7 t7) (c_7:codeIn K c7 "nought" = true) (k7:keepIn K (.ref f7)=true)
 (a8:nsIn K mainGlobals "unit" = some (some (.ref f8))) (l8:FnL K f8 "unit" "unit" s_unit o8 d8 s8 v8 x8 p8 n8 c8 t8) (c_8:codeIn K c8 "unit" = true) (k8:keepIn K (.ref f8)=true)
 (a9:nsIn K mainGlobals "grow" = some (some (.ref f9))) (l9:FnL K f9 "grow" "grow" s_grow o9 d9 s9 v9 x9 p9 n9 c9 t9) (c_9:codeIn K c9 "grow" = true) (k9:keepIn K (.ref f9)=true)
 (a10:nsIn K mainGlobals "answers" = some (some (.ref f10))) (l10:FnL K f10 "answers" "answers" s_answers o10 d10 s10 v10 x10 p10 n10 c10 t10) (c_10:codeIn K c10 "answers" = true) (k10:keepIn K (.ref f10)=true)
 (a11:nsIn K mainGlobals "row_sum" = some (some (.ref f11))) (l11:FnL K f11 "row_sum" "row_sum" s_row_sum o11 d11 s11 v11 x11 p11 n11 c11 t11) (c_11:codeIn K c11 "row_sum" = true) (k11:keepIn K (.ref f11)=true)
 (a12:nsIn K mainGlobals "sums" = some (some (.ref f12))) (l12:FnL K f12 "sums" "sums" s_sums o12 d12 s12 v12 x12 p12 n12 c12 t12) (c_12:codeIn K c12 "sums" = true) (k12:keepIn K (.ref f12)=true)
 (a13:nsIn K mainGlobals "is_answer" = some (some (.ref f13))) (l13:FnL K f13 "is_answer" "is_answer" s_is_answer o13 d13 s13 v13 x13 p13 n13 c13 t13) (c_13:codeIn K c13 "is_answer" = true) (k13:keepIn K (.ref f13)=true)
 (a14:nsIn K mainGlobals "pull_of" = some (some (.ref f14))) (l14:FnL K f14 "pull_of" "pull_of" s_pull_of o14 d14 s14 v14 x14 p14 n14 c14 t14) (c_14:codeIn K c14 "pull_of" = true) (k14:keepIn K (.ref f14)=true)
 (a15:nsIn K mainGlobals "falls" = some (some (.ref f15))) (l15:FnL K f15 "falls" "falls" s_falls o15 d15 s15 v15 x15 p15 n15 c15 t15) (c_15:codeIn K c15 "falls" = true) (k15:keepIn K (.ref f15)=true)
 (a16:nsIn K mainGlobals "first_steps" = some (some (.ref f16))) (l16:FnL K f16 "first_steps" "first_steps" s_first_steps o16 d16 s16 v16 x16 p16 n16 c16 t16) (c_16:codeIn K c16 "first_steps" = true) (k16:keepIn K (.ref f16)=true)
 (a17:nsIn K mainGlobals "raised" = some (some (.ref f17))) (l17:FnL K f17 "raised" "raised" s_raised o17 d17 s17 v17 x17 p17 n17 c17 t17) (c_17:codeIn K c17 "raised" = true) (k17:keepIn K (.ref f17)=true)
 (a18:nsIn K mainGlobals "steps" = some (some (.ref f18))) (l18:FnL K f18 "steps" "steps" s_steps o18 d18 s18 v18 x18 p18 n18 c18 t18) (c_18:codeIn K c18 "steps" = true) (k18:keepIn K (.ref f18)=true)
 (a19:nsIn K mainGlobals "is_barred" = some (some (.ref f19))) (l19:FnL K f19 "is_barred" "is_barred" s_is_barred o19 d19 s19 v19 x19 p19 n19 c19 t19) (c_19:codeIn K c19 "is_barred" = true) (k19:keepIn K (.ref f19)=true)
 (a20:nsIn K mainGlobals "next_level" = some (some (.ref f20))) (l20:FnL K f20 "next_level" "next_level" s_next_level o20 d20 s20 v20 x20 p20 n20 c20 t20) (c_20:codeIn K c20 "next_level" = true) (k20:keepIn K (.ref f20)=true)
 (a21:nsIn K mainGlobals "least" = some (some (.ref f21))) (l21:FnL K f21 "least" "least" s_least o21 d21 s21 v21 x21 p21 n21 c21 t21) (c_21:codeIn K c21 "least" = true) (k21:keepIn K (.ref f21)=true)
 (a22:nsIn K mainGlobals "often" = some (some (.ref f22))) (l22:FnL K f22 "often" "often" s_often o22 d22 s22 v22 x22 p22 n22 c22 t22) (c_22:codeIn K c22 "often" = true) (k22:keepIn K (.ref f22)=true)
 (a23:nsIn K mainGlobals "laid" = some (some (.ref f23))) (l23:FnL K f23 "laid" "laid" s_laid o23 d23 s23 v23 x23 p23 n23 c23 t23) (c_23:codeIn K c23 "laid" = true) (k23:keepIn K (.ref f23)=true)
 (a24:nsIn K mainGlobals "_law_cell" = some (some (.ref f24))) (l24:FnL K f24 "_law_cell" "_law_cell" s__law_cell o24 d24 s24 v24 x24 p24 n24 c24 t24) (c_24:codeIn K c24 "_law_cell" = true) (k24:keepIn K (.ref f24)=true)
 (a25:nsIn K mainGlobals "_law_pot" = some (some (.ref f25))) (l25:FnL K f25 "_law_pot" "_law_pot" s__law_pot o25 d25 s25 v25 x25 p25 n25 c25 t25) (c_25:codeIn K c25 "_law_pot" = true) (k25:keepIn K (.ref f25)=true)
 (a26:nsIn K mainGlobals "_law_take" = some (some (.ref f26))) (l26:FnL K f26 "_law_take" "_law_take" s__law_take o26 d26 s26 v26 x26 p26 n26 c26 t26) (c_26:codeIn K c26 "_law_take" = true) (k26:keepIn K (.ref f26)=true)
 (a27:nsIn K mainGlobals "_law_row" = some (some (.ref f27))) (l27:FnL K f27 "_law_row" "_law_row" s__law_row o27 d27 s27 v27 x27 p27 n27 c27 t27) (c_27:codeIn K c27 "_law_row" = true) (k27:keepIn K (.ref f27)=true)
 (a28:nsIn K mainGlobals "_law_system" = some (some (.ref f28))) (l28:FnL K f28 "_law_system" "_law_system" s__law_system o28 d28 s28 v28 x28 p28 n28 c28 t28) (c_28:codeIn K c28 "_law_system" = true) (k28:keepIn K (.ref f28)=true)
 (a29:nsIn K mainGlobals "_law_sums" = some (some (.ref f29))) (l29:FnL K f29 "_law_sums" "_law_sums" s__law_sums o29 d29 s29 v29 x29 p29 n29 c29 t29) (c_29:codeIn K c29 "_law_sums" = true) (k29:keepIn K (.ref f29)=true)
 (a30:nsIn K mainGlobals "_law_box" = some (some (.ref f30))) (l30:FnL K f30 "_law_box" "_law_box" s__law_box o30 d30 s30 v30 x30 p30 n30 c30 t30) (c_30:codeIn K c30 "_law_box" = true) (k30:keepIn K (.ref f30)=true)
 (a31:nsIn K mainGlobals "_law_is_laid" = some (some (.ref f31))) (l31:FnL K f31 "_law_is_laid" "_law_is_laid" s__law_is_laid o31 d31 s31 v31 x31 p31 n31 c31 t31) (c_31:codeIn K c31 "_law_is_laid" = true) (k31:keepIn K (.ref f31)=true)
 (a32:nsIn K mainGlobals "_law_unbound" = some (some (.ref f32))) (l32:FnL K f32 "_law_unbound" "_law_unbound" s__law_unbound o32 d32 s32 v32 x32 p32 n32 c32 t32) (c_32:codeIn K c32 "_law_unbound" = true) (k32:keepIn K (.ref f32)=true)
 (a33:nsIn K mainGlobals "law" = some (some (.ref f33))) (l33:FnL K f33 "law" "law" s_law o33 d33 s33 v33 x33 p33 n33 c33 t33) (c_33:codeIn K c33 "law" = true) (k33:keepIn K (.ref f33)=true)
  (z1:PySem.W.nsIn K mainGlobals "ValueError" = some none) (z2:PySem.W.nsIn K mainGlobals "all" = some none) (z3:PySem.W.nsIn K mainGlobals "any" = some none) (z4:PySem.W.nsIn K mainGlobals "bool" = some none) (z5:PySem.W.nsIn K mainGlobals "enumerate" = some none) (z6:PySem.W.nsIn K mainGlobals "int" = some none) (z7:PySem.W.nsIn K mainGlobals "isinstance" = some none) (z8:PySem.W.nsIn K mainGlobals "len" = some none) (z9:PySem.W.nsIn K mainGlobals "list" = some none) (z10:PySem.W.nsIn K mainGlobals "max" = some none) (z11:PySem.W.nsIn K mainGlobals "min" = some none) (z12:PySem.W.nsIn K mainGlobals "range" = some none) (z13:PySem.W.nsIn K mainGlobals "sorted" = some none) (z14:PySem.W.nsIn K mainGlobals "sum" = some none) (z15:PySem.W.nsIn K mainGlobals "tuple" = some none) (z16:PySem.W.nsIn K mainGlobals "zip" = some none)
  {D_TooMany:Addr} (aD_TooMany:PySem.W.nsIn K mainGlobals "TooMany" = some (some (.ref D_TooMany))) {D_Finder:Addr} (aD_Finder:PySem.W.nsIn K mainGlobals "Finder" = some (some (.ref D_Finder))) {nm_TooMany qn_TooMany:Str} {N_TooMany:Addr} {bs_TooMany bm_TooMany sub_TooMany:List Value} {hd_TooMany ab_TooMany:Bool} {sn_TooMany:List Str} {col_TooMany:Option Bool} {dd_TooMany:Option Addr} {k0_TooMany k1_TooMany k2_TooMany k3_TooMany k5_TooMany:Option Value} (lx_TooMany:K.lookup D_TooMany=some (excClassObj nm_TooMany qn_TooMany D_TooMany N_TooMany bs_TooMany bm_TooMany hd_TooMany sn_TooMany sub_TooMany ab_TooMany col_TooMany dd_TooMany k0_TooMany k1_TooMany k2_TooMany k3_TooMany k5_TooMany "ValueError.__new__")) (tx_TooMany:PySem.W.tailIn K [.type "ValueError",.type "Exception",.type "BaseException",.type "object"] bm_TooMany=true) (ok_TooMany:PySem.W.nsOkIn K N_TooMany=true) (in_TooMany:PySem.W.nsIn K N_TooMany "__init__" = some none) (be_TooMany:bm_TooMany.contains (.type "BaseException")=true) (pg_Finder:PySem.W.plainGet K D_Finder Str.empty=true) (hd_Finder:PySem.W.hasDictIn K D_Finder=true) (po_Finder:PySem.W.plainOver K D_Finder=true) (sa_Finder:PySem.W.findIn K (.ref D_Finder) "__setattr__" = some (some (.builtin "object.__setattr__"))) (mk_Finder:PySem.W.makesIn K D_Finder=true) (kc_Finder:PySem.W.keepIn K (.ref D_Finder)=true) (n_Finder_rows:PySem.W.findIn K (.ref D_Finder) "rows" = some none) (n_Finder_caps:PySem.W.findIn K (.ref D_Finder) "caps" = some none) (n_Finder_begun:PySem.W.findIn K (.ref D_Finder) "begun" = some none) (n_Finder_here:PySem.W.findIn K (.ref D_Finder) "here" = some none) (n_Finder_found:PySem.W.findIn K (.ref D_Finder) "found" = some none) (n_Finder_walked:PySem.W.findIn K (.ref D_Finder) "walked" = some none) (a_Finder___init__:findIn K (.ref D_Finder) "__init__" = some (some (.ref f_Finder___init__))) (i_Finder___init__:isFn K (.ref f_Finder___init__)=true) (l_Finder___init__:FnL K f_Finder___init__ "__init__" "Finder.__init__" s_Finder___init__ o_Finder___init__ d_Finder___init__ s0_Finder___init__ v_Finder___init__ x_Finder___init__ p_Finder___init__ n0_Finder___init__ c0_Finder___init__ t_Finder___init__) (c_Finder___init__:codeIn K c0_Finder___init__ "Finder.__init__" = true) (k_Finder___init__:keepIn K (.ref f_Finder___init__)=true) (a_Finder_step:findIn K (.ref D_Finder) "step" = some (some (.ref f_Finder_step))) (i_Finder_step:isFn K (.ref f_Finder_step)=true) (l_Finder_step:FnL K f_Finder_step "step" "Finder.step" s_Finder_step o_Finder_step d_Finder_step s0_Finder_step v_Finder_step x_Finder_step p_Finder_step n0_Finder_step c0_Finder_step t_Finder_step) (c_Finder_step:codeIn K c0_Finder_step "Finder.step" = true) (k_Finder_step:keepIn K (.ref f_Finder_step)=true) (a_Finder_step_within:findIn K (.ref D_Finder) "step_within" = some (some (.ref f_Finder_step_within))) (i_Finder_step_within:isFn K (.ref f_Finder_step_within)=true) (l_Finder_step_within:FnL K f_Finder_step_within "step_within" "Finder.step_within" s_Finder_step_within o_Finder_step_within d_Finder_step_within s0_Finder_step_within v_Finder_step_within x_Finder_step_within p_Finder_step_within n0_Finder_step_within c0_Finder_step_within t_Finder_step_within) (c_Finder_step_within:codeIn K c0_Finder_step_within "Finder.step_within" = true) (k_Finder_step_within:keepIn K (.ref f_Finder_step_within)=true) (a_Finder_level:findIn K (.ref D_Finder) "level" = some (some (.ref f_Finder_level))) (i_Finder_level:isFn K (.ref f_Finder_level)=true) (l_Finder_level:FnL K f_Finder_level "level" "Finder.level" s_Finder_level o_Finder_level d_Finder_level s0_Finder_level v_Finder_level x_Finder_level p_Finder_level n0_Finder_level c0_Finder_level t_Finder_level) (c_Finder_level:codeIn K c0_Finder_level "Finder.level" = true) (k_Finder_level:keepIn K (.ref f_Finder_level)=true) (a_Finder_told:findIn K (.ref D_Finder) "told" = some (some (.ref f_Finder_told))) (i_Finder_told:isFn K (.ref f_Finder_told)=true) (l_Finder_told:FnL K f_Finder_told "told" "Finder.told" s_Finder_told o_Finder_told d_Finder_told s0_Finder_told v_Finder_told x_Finder_told p_Finder_told n0_Finder_told c0_Finder_told t_Finder_told) (c_Finder_told:codeIn K c0_Finder_told "Finder.told" = true) (k_Finder_told:keepIn K (.ref f_Finder_told)=true) (a_Finder_paper:findIn K (.ref D_Finder) "paper" = some (some (.ref f_Finder_paper))) (i_Finder_paper:isFn K (.ref f_Finder_paper)=true) (l_Finder_paper:FnL K f_Finder_paper "paper" "Finder.paper" s_Finder_paper o_Finder_paper d_Finder_paper s0_Finder_paper v_Finder_paper x_Finder_paper p_Finder_paper n0_Finder_paper c0_Finder_paper t_Finder_paper) (c_Finder_paper:codeIn K c0_Finder_paper "Finder.paper" = true) (k_Finder_paper:keepIn K (.ref f_Finder_paper)=true) (a_Finder_ended:findIn K (.ref D_Finder) "ended" = some (some (.ref f_Finder_ended))) (i_Finder_ended:isFn K (.ref f_Finder_ended)=true) (l_Finder_ended:FnL K f_Finder_ended "ended" "Finder.ended" s_Finder_ended o_Finder_ended d_Finder_ended s0_Finder_ended v_Finder_ended x_Finder_ended p_Finder_ended n0_Finder_ended c0_Finder_ended t_Finder_ended) (c_Finder_ended:codeIn K c0_Finder_ended "Finder.ended" = true) (k_Finder_ended:keepIn K (.ref f_Finder_ended)=true) :
  ∃ fd:FuncData,(∀ (s:Shared) (v:Value),BindsTo s fd ⟨[v],[]⟩ [("_law_script",v)])∧∀ base:Heap,K.In base→base.Ns mainGlobals mg→FnOk l.prog w K mg base CX0 9 fa fd ["_law_script"] (spLaw K):=by
 have e:=hfa.symm.trans (PySem.W.mg_of X G a33)
 cases e
 have T:Tx mg:=⟨PySem.W.mg_none_of X G z1,PySem.W.mg_none_of X G z2,PySem.W.mg_none_of X G z3,PySem.W.mg_none_of X G z4,PySem.W.mg_none_of X G z5,PySem.W.mg_none_of X G z6,PySem.W.mg_none_of X G z7,PySem.W.mg_none_of X G z8,PySem.W.mg_none_of X G z9,PySem.W.mg_none_of X G z10,PySem.W.mg_none_of X G z11,PySem.W.mg_none_of X G z12,PySem.W.mg_none_of X G z13,PySem.W.mg_none_of X G z14,PySem.W.mg_none_of X G z15,PySem.W.mg_none_of X G z16⟩
 have F1:FunAt K mg "free" s_free ["width"]:=fa_mk X G a1 l1 c_1 k1 fun _ _ _ _ _ _ us hl=>by obtain ⟨_,rfl⟩:=len1 hl; rfl
 have F2:FunAt K mg "within" s_within ["caps", "one"]:=fa_mk X G a2 l2 c_2 k2 fun _ _ _ _ _ _ us hl=>by obtain ⟨_,_,rfl⟩:=len2 hl; rfl
 have F3:FunAt K mg "below" s_below ["one", "other"]:=fa_mk X G a3 l3 c_3 k3 fun _ _ _ _ _ _ us hl=>by obtain ⟨_,_,rfl⟩:=len2 hl; rfl
 have F4:FunAt K mg "plus" s_plus ["one", "other"]:=fa_mk X G a4 l4 c_4 k4 fun _ _ _ _ _ _ us hl=>by obtain ⟨_,_,rfl⟩:=len2 hl; rfl
 have F5:FunAt K mg "minus" s_minus ["one", "other"]:=fa_mk X G a5 l5 c_5 k5 fun _ _ _ _ _ _ us hl=>by obtain ⟨_,_,rfl⟩:=len2 hl; rfl
 have F6:FunAt K mg "times" s_times ["many", "one"]:=fa_mk X G a6 l6 c_6 k6 fun _ _ _ _ _ _ us hl=>by obtain ⟨_,_,rfl⟩:=len2 hl; rfl
 have F7:FunAt K mg "nought" s_nought ["width"]:=fa_mk X G a7 l7 c_7 k7 fun _ _ _ _ _ _ us hl=>by obtain ⟨_,rfl⟩:=len1 hl; rfl
 have F8:FunAt K mg "unit" s_unit ["width", "j"]:=fa_mk X G a8 l8 c_8 k8 fun _ _ _ _ _ _ us hl=>by obtain ⟨_,_,rfl⟩:=len2 hl; rfl
 have F9:FunAt K mg "grow" s_grow ["found", "one", "caps", "most"]:=fa_mk X G a9 l9 c_9 k9 fun _ _ _ _ _ _ us hl=>by obtain ⟨_,_,_,_,rfl⟩:=len4 hl; rfl
 have F10:FunAt K mg "answers" s_answers ["told", "caps", "most"]:=fa_mk X G a10 l10 c_10 k10 fun _ _ _ _ _ _ us hl=>by obtain ⟨_,_,_,rfl⟩:=len3 hl; rfl
 have F11:FunAt K mg "row_sum" s_row_sum ["row", "one"]:=fa_mk X G a11 l11 c_11 k11 fun _ _ _ _ _ _ us hl=>by obtain ⟨_,_,rfl⟩:=len2 hl; rfl
 have F12:FunAt K mg "sums" s_sums ["rows", "one"]:=fa_mk X G a12 l12 c_12 k12 fun _ _ _ _ _ _ us hl=>by obtain ⟨_,_,rfl⟩:=len2 hl; rfl
 have F13:FunAt K mg "is_answer" s_is_answer ["rows", "one"]:=fa_mk X G a13 l13 c_13 k13 fun _ _ _ _ _ _ us hl=>by obtain ⟨_,_,rfl⟩:=len2 hl; rfl
 have F14:FunAt K mg "pull_of" s_pull_of ["rows", "totals", "j"]:=fa_mk X G a14 l14 c_14 k14 fun _ _ _ _ _ _ us hl=>by obtain ⟨_,_,_,rfl⟩:=len3 hl; rfl
 have F15:FunAt K mg "falls" s_falls ["rows", "one"]:=fa_mk X G a15 l15 c_15 k15 fun _ _ _ _ _ _ us hl=>by obtain ⟨_,_,rfl⟩:=len2 hl; rfl
 have F16:FunAt K mg "first_steps" s_first_steps ["caps"]:=fa_mk X G a16 l16 c_16 k16 fun _ _ _ _ _ _ us hl=>by obtain ⟨_,rfl⟩:=len1 hl; rfl
 have F17:FunAt K mg "raised" s_raised ["one", "j"]:=fa_mk X G a17 l17 c_17 k17 fun _ _ _ _ _ _ us hl=>by obtain ⟨_,_,rfl⟩:=len2 hl; rfl
 have F18:FunAt K mg "steps" s_steps ["rows", "caps", "one"]:=fa_mk X G a18 l18 c_18 k18 fun _ _ _ _ _ _ us hl=>by obtain ⟨_,_,_,rfl⟩:=len3 hl; rfl
 have F19:FunAt K mg "is_barred" s_is_barred ["found", "one", "j"]:=fa_mk X G a19 l19 c_19 k19 fun _ _ _ _ _ _ us hl=>by obtain ⟨_,_,_,rfl⟩:=len3 hl; rfl
 have F20:FunAt K mg "next_level" s_next_level ["rows", "caps", "found", "level", "room"]:=fa_mk X G a20 l20 c_20 k20 fun _ _ _ _ _ _ us hl=>by obtain ⟨_,_,_,_,_,rfl⟩:=len5 hl; rfl
 have F21:FunAt K mg "least" s_least ["rows", "caps", "most"]:=fa_mk X G a21 l21 c_21 k21 fun _ _ _ _ _ _ us hl=>by obtain ⟨_,_,_,rfl⟩:=len3 hl; rfl
 have F22:FunAt K mg "often" s_often ["one", "rest"]:=fa_mk X G a22 l22 c_22 k22 fun _ _ _ _ _ _ us hl=>by obtain ⟨_,_,rfl⟩:=len2 hl; rfl
 have F23:FunAt K mg "laid" s_laid ["told", "one"]:=fa_mk X G a23 l23 c_23 k23 fun _ _ _ _ _ _ us hl=>by obtain ⟨_,_,rfl⟩:=len2 hl; rfl
 have F24:FunAt K mg "_law_cell" s__law_cell ["_law_script", "_law_k"]:=fa_mk X G a24 l24 c_24 k24 fun _ _ _ _ _ _ us hl=>by obtain ⟨_,_,rfl⟩:=len2 hl; rfl
 have F25:FunAt K mg "_law_pot" s__law_pot ["_law_script", "_law_k"]:=fa_mk X G a25 l25 c_25 k25 fun _ _ _ _ _ _ us hl=>by obtain ⟨_,_,rfl⟩:=len2 hl; rfl
 have F26:FunAt K mg "_law_take" s__law_take ["_law_pot_here", "_law_many"]:=fa_mk X G a26 l26 c_26 k26 fun _ _ _ _ _ _ us hl=>by obtain ⟨_,_,rfl⟩:=len2 hl; rfl
 have F27:FunAt K mg "_law_row" s__law_row ["_law_draw", "_law_one"]:=fa_mk X G a27 l27 c_27 k27 fun _ _ _ _ _ _ us hl=>by obtain ⟨_,_,rfl⟩:=len2 hl; rfl
 have F28:FunAt K mg "_law_system" s__law_system ["_law_script"]:=fa_mk X G a28 l28 c_28 k28 fun _ _ _ _ _ _ us hl=>by obtain ⟨_,rfl⟩:=len1 hl; rfl
 have F29:FunAt K mg "_law_sums" s__law_sums ["_law_rows", "_law_one"]:=fa_mk X G a29 l29 c_29 k29 fun _ _ _ _ _ _ us hl=>by obtain ⟨_,_,rfl⟩:=len2 hl; rfl
 have F30:FunAt K mg "_law_box" s__law_box ["_law_caps"]:=fa_mk X G a30 l30 c_30 k30 fun _ _ _ _ _ _ us hl=>by obtain ⟨_,rfl⟩:=len1 hl; rfl
 have F31:FunAt K mg "_law_is_laid" s__law_is_laid ["_law_told", "_law_one"]:=fa_mk X G a31 l31 c_31 k31 fun _ _ _ _ _ _ us hl=>by obtain ⟨_,_,rfl⟩:=len2 hl; rfl
 have F32:FunAt K mg "_law_unbound" s__law_unbound ["_law_rows", "_law_width"]:=fa_mk X G a32 l32 c_32 k32 fun _ _ _ _ _ _ us hl=>by obtain ⟨_,_,rfl⟩:=len2 hl; rfl
 refine ⟨fnOf "law" "law" (defArgs s_law) (defBody s_law) (defScope s_law) .none v33 x33 p33 n33 c33 t33,fun s v=>.of_eq rfl,fun base XB GB=>?_⟩
 have M_TooMany:=PySem.W.mg_of X G aD_TooMany
 have M_Finder:=PySem.W.mg_of X G aD_Finder
 have CL_Finder:Cls K D_Finder:=⟨pg_Finder,hd_Finder,po_Finder,sa_Finder⟩
 have FM_Finder___init__:MethAt K D_Finder "__init__" "Finder.__init__" s_Finder___init__ ["self", "rows", "caps"]:=ma_mk a_Finder___init__ i_Finder___init__ l_Finder___init__ c_Finder___init__ k_Finder___init__ fun _ _ _ _ _ _ us hl=>by obtain ⟨_,_,_,rfl⟩:=len3 hl; rfl
 have FM_Finder_step:MethAt K D_Finder "step" "Finder.step" s_Finder_step ["self"]:=ma_mk a_Finder_step i_Finder_step l_Finder_step c_Finder_step k_Finder_step fun _ _ _ _ _ _ us hl=>by obtain ⟨_,rfl⟩:=len1 hl; rfl
 have FM_Finder_step_within:MethAt K D_Finder "step_within" "Finder.step_within" s_Finder_step_within ["self", "room"]:=ma_mk a_Finder_step_within i_Finder_step_within l_Finder_step_within c_Finder_step_within k_Finder_step_within fun _ _ _ _ _ _ us hl=>by obtain ⟨_,_,rfl⟩:=len2 hl; rfl
 have FM_Finder_level:MethAt K D_Finder "level" "Finder.level" s_Finder_level ["self"]:=ma_mk a_Finder_level i_Finder_level l_Finder_level c_Finder_level k_Finder_level fun _ _ _ _ _ _ us hl=>by obtain ⟨_,rfl⟩:=len1 hl; rfl
 have FM_Finder_told:MethAt K D_Finder "told" "Finder.told" s_Finder_told ["self"]:=ma_mk a_Finder_told i_Finder_told l_Finder_told c_Finder_told k_Finder_told fun _ _ _ _ _ _ us hl=>by obtain ⟨_,rfl⟩:=len1 hl; rfl
 have FM_Finder_paper:MethAt K D_Finder "paper" "Finder.paper" s_Finder_paper ["self"]:=ma_mk a_Finder_paper i_Finder_paper l_Finder_paper c_Finder_paper k_Finder_paper fun _ _ _ _ _ _ us hl=>by obtain ⟨_,rfl⟩:=len1 hl; rfl
 have FM_Finder_ended:MethAt K D_Finder "ended" "Finder.ended" s_Finder_ended ["self"]:=ma_mk a_Finder_ended i_Finder_ended l_Finder_ended c_Finder_ended k_Finder_ended fun _ _ _ _ _ _ us hl=>by obtain ⟨_,rfl⟩:=len1 hl; rfl
 have FL:=fun_mk (st:=s_law) l33 c_33 k33
 have RS:=ok_row_sum (base:=base) (P:=l.prog) (w:=w) F11 T
 have SU:=ok_sums F12 T RS
 have IA:=ok_is_answer F13 T SU
 have FA:=ok_falls F15 T (ok_pull_of F14 T) SU
 have BE:=ok_below (base:=base) (P:=l.prog) (w:=w) F3 T
 have ST:=ok_steps F18 T FA (ok_raised F17)
 have NX:=ok_next_level F20 T ST (ok_is_barred F19 T BE)
 have FS:=ok_first_steps (base:=base) (P:=l.prog) (w:=w) F16 T (ok_unit F8 T) (ok_within F2 T)
 have UF:FiTx K D_Finder:=⟨CL_Finder,n_Finder_rows,n_Finder_caps,n_Finder_begun,n_Finder_here,n_Finder_found,n_Finder_walked⟩
 have MI:=(ok_finit (base:=base) (P:=l.prog) (w:=w) (mg:=mg) FM_Finder___init__ UF).make M_Finder mk_Finder kc_Finder
 have MS:=ok_stepw FM_Finder_step_within UF T NX FS IA
 have ME:=ok_ended (base:=base) (P:=l.prog) (w:=w) FM_Finder_ended UF T
 have MT:=ok_told (base:=base) (P:=l.prog) (w:=w) FM_Finder_told UF T
 have MP:=ok_paper (base:=base) (P:=l.prog) (w:=w) FM_Finder_paper UF T
 have LE:=ok_least F21 T UF CL_Finder MI MS ME MT MP (own_mk XB M_TooMany lx_TooMany tx_TooMany ok_TooMany in_TooMany)
 have LN:=ok_leastN F21 T UF CL_Finder MI MS ME MT MP
 have TK:=ok_take (base:=base) (P:=l.prog) (w:=w) F26 T
 have PT:=ok_pot (base:=base) (P:=l.prog) (w:=w) F25 T (ok_cell F24 T)
 have FR:=ok_free (base:=base) (P:=l.prog) (w:=w) F1
 have UN:=ok_base (ok_unbound F32 T FR LE M_TooMany (clsX_mk lx_TooMany be_TooMany))
 have GR:=ok_grow F9 T (ok_plus F4 T) (ok_within (base:=base) (P:=l.prog) (w:=w) F2 T)
 have AN:=ok_answersP F10 T (ok_nought F7) GR
 have LA:=ok_laid F23 T (ok_often (base:=base) (P:=l.prog) (w:=w) F22 T) (ok_minus F5 T) (ok_times F6 T)
 exact ok_law FL T PT TK (ok_system F28 T TK PT (ok_row F27 T TK)) UN (ok_box F30 T) (ok_sums2 F29 T) LN AN (ok_is_laid F31 T LA)
end K26
namespace PySem.W.Fast
theorem tw17903725667544649506:True:=⟨⟩
theorem tw8436748834657602501:True:=⟨⟩
theorem tw3505558023693186789:True:=⟨⟩
theorem tw13846687525438310663:True:=⟨⟩
theorem tw12266171263553147055:True:=⟨⟩
theorem tw3567167496503209422:True:=⟨⟩
theorem tw3083476694515270061:True:=⟨⟩
theorem tw13805839406971055225:True:=⟨⟩
theorem tw17023825164895405897:True:=⟨⟩
theorem tw11231349824568059714:True:=⟨⟩
theorem tw15910547729834257198:True:=⟨⟩
theorem tw5688637346915927121:True:=⟨⟩
theorem tw11612718031495328742:True:=⟨⟩
theorem tw8566446598625620349:True:=⟨⟩
theorem tw4895814751846911038:True:=⟨⟩
theorem tw3000127337324661534:True:=⟨⟩
theorem tw4474476767940421615:True:=⟨⟩
theorem tw3071725219689823970:True:=⟨⟩
theorem tw3232365022458635808:True:=⟨⟩
theorem tw18245595675328000785:True:=⟨⟩
theorem tw9521266465074709922:True:=⟨⟩
theorem tw10197781721146987985:True:=⟨⟩
theorem tw432765934834446515:True:=⟨⟩
theorem tw6994314368553637819:True:=⟨⟩
theorem tw7648586788421613981:True:=⟨⟩
theorem tw13481619716521536678:True:=⟨⟩
theorem tw17224527620633912014:True:=⟨⟩
theorem tw16578487245778383980:True:=⟨⟩
theorem tw1766411445050650734:True:=⟨⟩
theorem tw2420594779172439251:True:=⟨⟩
theorem tw17120014268950313679:True:=⟨⟩
theorem tw13026438110534174350:True:=⟨⟩
theorem tw1748172960322908763:True:=⟨⟩
theorem tw11855170542187809874:True:=⟨⟩
theorem tw476309700099643674:True:=⟨⟩
theorem tw3012388235758589924:True:=⟨⟩
theorem tw2146322121003015433:True:=⟨⟩
theorem tw16756845374571433223:True:=⟨⟩
theorem tw10799334384426432523:True:=⟨⟩
theorem tw243501628960247372:True:=⟨⟩
theorem tw16641390694109232733:True:=⟨⟩
theorem tw15585827573821929841:True:=⟨⟩
theorem tw16389709566611390103:True:=⟨⟩
theorem tw15098300317724904955:True:=⟨⟩
theorem tw8844295969749890421:True:=⟨⟩
theorem tw2971823750994645972:True:=⟨⟩
theorem tw3018559545820644985:True:=⟨⟩
theorem tw17527909224908015077:True:=⟨⟩
theorem tw9681273484315109865:True:=⟨⟩
theorem tw1342978272819936160:True:=⟨⟩
theorem tw1133166324467437865:True:=⟨⟩
theorem tw11380963046936741680:True:=⟨⟩
theorem tw4820045956999780961:True:=⟨⟩
theorem tw9857804866224407013:True:=⟨⟩
theorem tw8990830828008659902:True:=⟨⟩
theorem tw8883057091656475790:True:=⟨⟩
theorem tw16229757775518105330:True:=⟨⟩
theorem tw5628612776854584956:True:=⟨⟩
theorem tw10485608013167029435:True:=⟨⟩
theorem tw3531261059683208197:True:=⟨⟩
theorem tw2769299513389802854:True:=⟨⟩
theorem tw3195214472997275681:True:=⟨⟩
theorem tw17579874901644016920:True:=⟨⟩
theorem tw655606895334579084:True:=⟨⟩
theorem tw10837199219873991270:True:=⟨⟩
theorem tw13740820543291807654:True:=⟨⟩
theorem tw11902875498195662709:True:=⟨⟩
theorem tw1098648318577781719:True:=⟨⟩
theorem tw349604137136317114:True:=⟨⟩
theorem tw17645707963959528094:True:=⟨⟩
theorem tw863954202396807030:True:=⟨⟩
theorem tw14504767545276693855:True:=⟨⟩
theorem tw8487173115970211091:True:=⟨⟩
theorem tw16948272985461652412:True:=⟨⟩
theorem tw16199518542112052075:True:=⟨⟩
theorem tw966469513092445352:True:=⟨⟩
theorem tw16775602907635949457:True:=⟨⟩
theorem tw3574422772453463489:True:=⟨⟩
theorem tw5438145415043222898:True:=⟨⟩
theorem tw3531459538830617031:True:=⟨⟩
theorem tw17256205153458060106:True:=⟨⟩
theorem tw13360413640530268558:True:=⟨⟩
theorem tw14914747604638098876:True:=⟨⟩
theorem tw2885240313129975403:True:=⟨⟩
theorem tw2009566801625105089:True:=⟨⟩
theorem tw431092551542844215:True:=⟨⟩
theorem tw10006887461612094984:True:=⟨⟩
theorem tw18324402421916221598:True:=⟨⟩
end PySem.W.Fast
open PySem PySem.W PyProof.Rows
set_option maxRecDepth 100000 in
set_option maxHeartbeats 0 in
theorem PySem.Challenge.cw_leastlays_k26_whole_answers_within_caps_holds : PySem.Challenge.rw_leastlays_k26_whole_answers_within_caps.Holds := by
 w_on; o_law; k_head; (case hw=>w_witness2)
 k_fill
 refine L2.law_walk (l:=PySem.Challenge.rw_leastlays_k26_whole_answers_within_caps) 9 rfl rfl ⟨rfl,by decide,by decide⟩ (fun w h Y=>PySem.W.kIn_of Y) ?F
 case F =>
  intro w mg fa h KX G hmg
  refine' K26.all_mk KX G hmg ?a1 ?l1 ?c_1 ?k1 ?a2 ?l2 ?c_2 ?k2 ?a3 ?l3 ?c_3 ?k3 ?a4 ?l4 ?c_4 ?k4 ?a5 ?l5 ?c_5 ?k5 ?a6 ?l6 ?c_6 ?k6 ?a7 ?l7 ?c_7 ?k7 ?a8 ?l8 ?c_8 ?k8 ?a9 ?l9 ?c_9 ?k9 ?a10 ?l10 ?c_10 ?k10 ?a11 ?l11 ?c_11 ?k11 ?a12 ?l12 ?c_12 ?k12 ?a13 ?l13 ?c_13 ?k13 ?a14 ?l14 ?c_14 ?k14 ?a15 ?l15 ?c_15 ?k15 ?a16 ?l16 ?c_16 ?k16 ?a17 ?l17 ?c_17 ?k17 ?a18 ?l18 ?c_18 ?k18 ?a19 ?l19 ?c_19 ?k19 ?a20 ?l20 ?c_20 ?k20 ?a21 ?l21 ?c_21 ?k21 ?a22 ?l22 ?c_22 ?k22 ?a23 ?l23 ?c_23 ?k23 ?a24 ?l24 ?c_24 ?k24 ?a25 ?l25 ?c_25 ?k25 ?a26 ?l26 ?c_26 ?k26 ?a27 ?l27 ?c_27 ?k27 ?a28 ?l28 ?c_28 ?k28 ?a29 ?l29 ?c_29 ?k29 ?a30 ?l30 ?c_30 ?k30 ?a31 ?l31 ?c_31 ?k31 ?a32 ?l32 ?c_32 ?k32 ?a33 ?l33 ?c_33 ?k33 ?z1 ?z2 ?z3 ?z4 ?z5 ?z6 ?z7 ?z8 ?z9 ?z10 ?z11 ?z12 ?z13 ?z14 ?z15 ?z16 ?aD_TooMany ?aD_Finder ?lx_TooMany ?tx_TooMany ?ok_TooMany ?in_TooMany ?be_TooMany ?pg_Finder ?hd_Finder ?po_Finder ?sa_Finder ?mk_Finder ?kc_Finder ?n_Finder_rows ?n_Finder_caps ?n_Finder_begun ?n_Finder_here ?n_Finder_found ?n_Finder_walked ?a_Finder___init__ ?i_Finder___init__ ?l_Finder___init__ ?c_Finder___init__ ?k_Finder___init__ ?a_Finder_step ?i_Finder_step ?l_Finder_step ?c_Finder_step ?k_Finder_step ?a_Finder_step_within ?i_Finder_step_within ?l_Finder_step_within ?c_Finder_step_within ?k_Finder_step_within ?a_Finder_level ?i_Finder_level ?l_Finder_level ?c_Finder_level ?k_Finder_level ?a_Finder_told ?i_Finder_told ?l_Finder_told ?c_Finder_told ?k_Finder_told ?a_Finder_paper ?i_Finder_paper ?l_Finder_paper ?c_Finder_paper ?k_Finder_paper ?a_Finder_ended ?i_Finder_ended ?l_Finder_ended ?c_Finder_ended ?k_Finder_ended
  (case a1 | l1 | c_1 | k1 | a2 | l2 | c_2 | k2 | a3 | l3 | c_3 | k3 | a4 | l4 | c_4 | k4 | a5 | l5 | c_5 | k5 | a6 | l6 | c_6 | k6 | a7 | l7 | c_7 | k7 | a8 | l8 | c_8 | k8 | a9 | l9 | c_9 | k9 | a10 | l10 | c_10 | k10 | a11 | l11 | c_11 | k11 | a12 | l12 | c_12 | k12 | a13 | l13 | c_13 | k13 | a14 | l14 | c_14 | k14 | a15 | l15 | c_15 | k15 | a16 | l16 | c_16 | k16 | a17 | l17 | c_17 | k17 | a18 | l18 | c_18 | k18 | a19 | l19 | c_19 | k19 | a20 | l20 | c_20 | k20 | a21 | l21 | c_21 | k21 | a22 | l22 | c_22 | k22 | a23 | l23 | c_23 | k23 | a24 | l24 | c_24 | k24 | a25 | l25 | c_25 | k25 | a26 | l26 | c_26 | k26 | a27 | l27 | c_27 | k27 | a28 | l28 | c_28 | k28 | a29 | l29 | c_29 | k29 | a30 | l30 | c_30 | k30 | a31 | l31 | c_31 | k31 | a32 | l32 | c_32 | k32 | a33 | l33 | c_33 | k33 | z1 | z2 | z3 | z4 | z5 | z6 | z7 | z8 | z9 | z10 | z11 | z12 | z13 | z14 | z15 | z16 | aD_TooMany | aD_Finder=>(try unfold L2.FnL); k_is)
  (case lx_TooMany | tx_TooMany | ok_TooMany | in_TooMany | be_TooMany=>first | k_is | kernel_rfl | rfl)
  (case pg_Finder | hd_Finder | po_Finder | sa_Finder | mk_Finder | kc_Finder | n_Finder_rows | n_Finder_caps | n_Finder_begun | n_Finder_here | n_Finder_found | n_Finder_walked | a_Finder___init__ | i_Finder___init__ | l_Finder___init__ | c_Finder___init__ | k_Finder___init__ | a_Finder_step | i_Finder_step | l_Finder_step | c_Finder_step | k_Finder_step | a_Finder_step_within | i_Finder_step_within | l_Finder_step_within | c_Finder_step_within | k_Finder_step_within | a_Finder_level | i_Finder_level | l_Finder_level | c_Finder_level | k_Finder_level | a_Finder_told | i_Finder_told | l_Finder_told | c_Finder_told | k_Finder_told | a_Finder_paper | i_Finder_paper | l_Finder_paper | c_Finder_paper | k_Finder_paper | a_Finder_ended | i_Finder_ended | l_Finder_ended | c_Finder_ended | k_Finder_ended=>(try unfold L2.FnL); k_is)
#print axioms PySem.Challenge.cw_leastlays_k26_whole_answers_within_caps_holds
