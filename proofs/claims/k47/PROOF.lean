import PyProof.Rows.All
import Wide.All
import OpenK.AllK
import Wide.FinOn
import Lean
import PyProof.EqAt
import PyProof.EqKinds
import PyProof.TupleCall
import PyProof.ZipIter
import PyProof.ExcArgsOwn
import PyProof.ExcAttrAll.ValueError
import KE.KSortTup
import PySem.SetTable
import PyProof.SetNew
import PyProof.TupleKey
import PyProof.DictRoadsH
import PyProof.DictKinds
import PyProof.IsRules
import PyProof.Rows.SetFrom
import PyProof.WalksMore
import KE.KDictSum
import PyProof.MeetsStr
import PyProof.MeetsStr2
import PyProof.StrLawsJoin
import PyProof.StrLawsChain
import PyProof.Rows.StrItems
import KE.KIntText
import PyProof.Rows.ReprOcc
import PyProof.StrWalks
import PyProof.CallType
import PyProof.StrOps
import PyProof.StrLawsIn
import PyProof.Rows.CallKwBuiltin
import PyProof.MinMaxWalk
import PySem.Challenge.RW_leastlays_k47_papers_texts
set_option Elab.async false
set_option linter.all false
set_option maxRecDepth 100000
namespace L2
open PySem PySem.Spec PyProof.Rows
abbrev Key := Sum Int Str
def keyIs : Key → Value → Bool
  | .inl k, v => Value.isInt k v
  | .inr x, v => Value.isStrOf x v
def keyH (w : World) : Key → Int
  | .inl k => hashInt k
  | .inr x => hashStr w x
theorem keyIs_shape : ∀ {k : Key} {v : Value}, keyIs k v = true → (∃ i t, k = Sum.inl i ∧ v = Value.int i t) ∨ (∃ x t, k = Sum.inr x ∧ v = Value.str x t)
  | .inl i, v, h => by
    obtain ⟨t, e⟩ := Value.isInt_shape (k := i) (v := v) h
    exact .inl ⟨i, t, rfl, e⟩
  | .inr x, v, h => by
    obtain ⟨t, e⟩ := Value.isStrOf_shape (x := x) (v := v) h
    exact .inr ⟨x, t, rfl, e⟩
theorem keyIs_int (i : Int) (t : Tok) : keyIs (.inl i) (.int i t) = true := by simp [keyIs, Value.isInt]
theorem keyIs_str (x : Str) (t : Tok) : keyIs (.inr x) (.str x t) = true := by simp [keyIs, Value.isStrOf]
theorem key_ll (a b : Int) : decide ((Sum.inl a : Key) = Sum.inl b) = (a == b) := by
  by_cases e : a = b
  · subst e; simp
  · have h : ¬ (Sum.inl a : Key) = Sum.inl b := fun q => e (Sum.inl.inj q)
    rw [decide_eq_false h]
    exact (beq_eq_false_iff_ne.mpr e).symm
theorem key_rr (a b : Str) : decide ((Sum.inr a : Key) = Sum.inr b) = decide (a = b) := by
  by_cases e : a = b
  · subst e; simp
  · have h : ¬ (Sum.inr a : Key) = Sum.inr b := fun q => e (Sum.inr.inj q)
    rw [decide_eq_false h, decide_eq_false e]
theorem key_lr (a : Int) (b : Str) : decide ((Sum.inl a : Key) = Sum.inr b) = false := decide_eq_false (fun q => nomatch q)
theorem key_rl (a : Str) (b : Int) : decide ((Sum.inr a : Key) = Sum.inl b) = false := decide_eq_false (fun q => nomatch q)
def mixKind (prog : Program) (w : World) : PySem.KeyKind prog w Key where
  is := keyIs
  hash := keyH w
  inj := fun v a b ha hb => by
    rcases keyIs_shape ha with ⟨i, t, rfl, rfl⟩ | ⟨x, t, rfl, rfl⟩
    · rcases keyIs_shape hb with ⟨j, u, rfl, e⟩ | ⟨y, u, rfl, e⟩
      · injection e with e1 _; rw [e1]
      · exact nomatch e
    · rcases keyIs_shape hb with ⟨j, u, rfl, e⟩ | ⟨y, u, rfl, e⟩
      · exact nomatch e
      · injection e with e1 _; rw [e1]
  byValue := fun k v h => by
    rcases keyIs_shape h with ⟨i, t, rfl, rfl⟩ | ⟨x, t, rfl, rfl⟩ <;> rfl
  pyHash := fun hv h => by
    rcases keyIs_shape hv with ⟨i, t, rfl, rfl⟩ | ⟨x, t, rfl, rfl⟩
    · exact wpAny_pyHash_int h
    · exact wpAny_pyHash_str h
  eqBool := fun hu hv h => by
    rcases keyIs_shape hu with ⟨i, t, rfl, rfl⟩ | ⟨x, t, rfl, rfl⟩
    · rcases keyIs_shape hv with ⟨j, u, rfl, rfl⟩ | ⟨y, u, rfl, rfl⟩
      · rw [key_ll] at h; exact wpAny_eqBool_int h
      · rw [key_lr] at h; exact SeqAt.EqAt.int_str i t y u _ _ _ _ h
    · rcases keyIs_shape hv with ⟨j, u, rfl, rfl⟩ | ⟨y, u, rfl, rfl⟩
      · rw [key_rl] at h; exact SeqAt.EqAt.str_int x t j u _ _ _ _ h
      · rw [key_rr] at h; exact wpAny_eqBool_str h
  «strs» := fun k x t v h => by
    rcases keyIs_shape h with ⟨i, u, rfl, e⟩ | ⟨y, u, rfl, e⟩
    · exact nomatch e
    · injection e with e1 _
      subst e1
      cases v <;> rfl
theorem mixKind_int (prog : Program) (w : World) (i : Int) (t : Tok) : (mixKind prog w).is (.inl i) (.int i t) = true := keyIs_int i t
theorem mixKind_str (prog : Program) (w : World) (x : Str) (t : Tok) : (mixKind prog w).is (.inr x) (.str x t) = true := keyIs_str x t
end L2
namespace L2
open PySem PySem.Spec PyProof.Rows
inductive V where
  | non | bl (b : Bool) | int (i : Int) | str (x : Str) | byt (b : Array UInt8) | flt (b : UInt64) | ref (a : Addr) | ty (n : String)
  deriving DecidableEq
def RelV : V → Value → Prop
  | .non, u => u = Value.none
  | .bl b, u => u = Value.bool b
  | .int i, u => ∃ t, u = Value.int i t
  | .str x, u => ∃ t, u = Value.str x t
  | .byt b, u => ∃ t, u = Value.bytes b t
  | .flt b, u => ∃ t, u = Value.float b t
  | .ref a, u => u = Value.ref a
  | .ty n, u => u = Value.type n
abbrev Vals : List V → List Value → Prop := Paired RelV
theorem Vals.length {xs : List V} {us : List Value} (r : Vals xs us) : xs.length = us.length := Paired.length r
theorem Vals.get : ∀ {xs : List V} {us : List Value} {i : Nat} {x : V}, Vals xs us → xs[i]? = some x → ∃ u, us[i]? = some u ∧ RelV x u
  | _, _, _, _, .nil, e => by simp at e
  | _, _, 0, _, .cons r _, e => by simp at e; subst e; exact ⟨_, rfl, r⟩
  | _, _, i + 1, x, .cons _ t, e => by
    obtain ⟨u, h1, h2⟩ := Vals.get (i := i) (x := x) t (by simpa using e)
    exact ⟨u, by simpa using h1, h2⟩
theorem Vals.set {x : V} {u : Value} (r : RelV x u) : ∀ {xs : List V} {us : List Value} (i : Nat), Vals xs us → Vals (xs.set i x) (us.set i u)
  | _, _, _, .nil => .nil
  | _, _, 0, .cons _ t => .cons r t
  | _, _, i + 1, .cons q t => .cons q (Vals.set r i t)
theorem Vals.append : ∀ {xs ys : List V} {us ws : List Value}, Vals xs us → Vals ys ws → Vals (xs ++ ys) (us ++ ws)
  | _, _, _, _, .nil, s => s
  | _, _, _, _, .cons r t, s => .cons r (Vals.append t s)
theorem Vals.take : ∀ {xs : List V} {us : List Value} (n : Nat), Vals xs us → Vals (xs.take n) (us.take n)
  | _, _, 0, _ => .nil
  | _, _, _ + 1, .nil => .nil
  | _, _, n + 1, .cons r t => .cons r (Vals.take n t)
theorem Vals.drop : ∀ {xs : List V} {us : List Value} (n : Nat), Vals xs us → Vals (xs.drop n) (us.drop n)
  | _, _, 0, r => r
  | _, _, _ + 1, .nil => .nil
  | _, _, n + 1, .cons _ t => Vals.drop n t
def RelO : Option V → Option Value → Prop
  | some v, some u => RelV v u
  | none, none => True
  | _, _ => False
def KV {κ : Type} : List (κ × V) → List (κ × Value) → Prop := Paired fun (p : κ × V) (q : κ × Value) => p.1 = q.1 ∧ RelV p.2 q.2
def kV : Key → V
  | .inl i => .int i
  | .inr x => .str x
inductive HO where
  /-- a list -/
  | lst (xs : List V)
  /-- a tuple (never changes) -/
  | tup (xs : List V)
  /-- a dict whose keys are ints and texts; one whose keys are tuples of ints and texts (the empty one is both) -/
  | dK (kvs : List (Key × V)) | dT (kvs : List (List Key × V))
  /-- a set of ints: its members, its size -/
  | set (S : Int → Bool) (n : Nat)
  /-- an instance of the class at C, its dict at dx, its attributes -/
  | ins (C dx : Addr) (fs : List (Str × V))
  /-- the dict of the instance at x -/
  | own (x : Addr)
  /-- the dict of an exception -/
  | xd (fs : List (Str × V))
  /-- a bound method, f of x -/
  | met (f x : Addr)
  /-- a range object lo, lo + 1, .. below hi -/
  | rng (lo hi : Int)
  /-- a thing that is known to the object (the script; a dict while a loop walks it): read, never written while it is so -/
  | frz (o : Obj) (u : HO)
  /-- a code object's table -/
  | tbl (ps : Array Value)
  /-- any other thing, by what is true of its one object (a def of one's own: SetO a S n := HO.ext fun h => ..) -/
  | ext (φ : Heap → Prop)
abbrev Hp := Addr → Option HO
def upd (H : Hp) (a : Addr) (o : HO) : Hp := fun b => if b = a then some o else H b
theorem upd_same {H : Hp} {a : Addr} {o : HO} : upd H a o a = some o := by unfold upd; rw [if_pos rfl]
theorem upd_ne {H : Hp} {a b : Addr} {o : HO} (h : b ≠ a) : upd H a o b = H b := by unfold upd; rw [if_neg h]
theorem upd_upd {H : Hp} {a : Addr} {o u : HO} : upd (upd H a o) a u = upd H a u := by
  funext b; unfold upd; split <;> rfl
theorem ne_of {H : Hp} {a b : Addr} {o u : HO} (h : H a = some o) (h' : H b = some u) (d : o ≠ u) : a ≠ b := by
  intro e; subst e; rw [h] at h'; exact d (Option.some.inj h')
theorem ne_of_none {H : Hp} {a b : Addr} {o : HO} (h : H a = some o) (h' : H b = none) : a ≠ b := by
  intro e; subst e; rw [h] at h'; cases h'
section
variable (P : Program) (w : World)
def ObjOk (H : Hp) (h : Heap) (a : Addr) : HO → Prop
  | .lst xs => xs.length ≤ sizeLine ∧ ∃ (its : List Value) (n : Nat), Vals xs its ∧ h.get? a = some { cls := .type "list", data := .seq its.toArray n }
  | .tup xs => xs.length ≤ sizeLine ∧ ∃ its : List Value, Vals xs its ∧ IsTup h a its.toArray
  | .dK kvs => kvs.length ≤ sizeLine ∧ (a == sysModules) = false ∧ ∃ vs, KV kvs vs ∧ h.DictOf (mixKind P w) a vs
  | .dT kvs => kvs.length ≤ sizeLine ∧ (a == sysModules) = false ∧ ∃ xs : List (List Key × Addr × Value),
      Paired (fun (p : List Key × V) (q : List Key × Addr × Value) => p.1 = q.1 ∧ H q.2.1 = some (.tup (p.1.map kV)) ∧ RelV p.2 q.2.2) kvs xs ∧
      ∃ o es ep, h.get? a = some o ∧ o.ExactDict ∧ o.data = .dict es ep ∧ es.toList = xs.map (entryOfKey (tupleKind (mixKind P w))) ∧ (xs.map (·.1)).Nodup
  | .set S n => h.SetOf (intKind P w) a S n
  | .ins C dx fs => H dx = some (.own a) ∧ fs.length ≤ 1000 ∧ dx ≠ a ∧ h.get? a = some (PySem.W.instObj C dx) ∧
      ∃ mA, h.Ns1 dx mA ∧ (∀ f, RelO (fs.lookup f) (mA f)) ∧ PySem.Within mA (fs.map (·.1))
  | .own _ => ∃ o, h.get? a = some o
  | .xd fs => ∃ mA, h.Ns1 a mA ∧ ∀ f, RelO (fs.lookup f) (mA f)
  | .rng lo hi => ∃ t u v, h.get? a = some { cls := .type "range", data := .fields #[.int lo t, .int hi u, .int 1 v] }
  | .frz o u => h.get? a = some o ∧ ObjOk H h a u
  | .tbl ps => h.get? a = some { cls := .none, data := .fields ps }
  | .met f x => h.get? a = some (PySem.W.methodObj (.ref f) (.ref x))
  | .ext φ => φ h ∧ (∃ o, h.get? a = some o) ∧ ∀ h1 h2 : Heap, φ h1 → (∀ o, h1.get? a = some o → h2.get? a = some o) → φ h2
def HOk (H : Hp) (h : Heap) : Prop := ∀ a o, H a = some o → ObjOk P w H h a o
end
section
variable {P : Program} {w : World} {H H' : Hp} {h h' : Heap} {a : Addr} {o : HO}
theorem ObjOk.lt (x : ObjOk P w H h a o) : a < h.objs.size := by
  cases o with
  | lst xs => obtain ⟨_, _, _, _, e⟩ := x; exact Heap.lt_size e
  | tup xs => obtain ⟨_, _, _, p⟩ := x; exact p.lt
  | dK kvs => obtain ⟨_, _, _, _, o, _, _, e, _⟩ := x; exact Heap.lt_size e
  | dT kvs => obtain ⟨_, _, _, _, o, _, _, e, _⟩ := x; exact Heap.lt_size e
  | set S n => obtain ⟨o, _, _, _, e, _⟩ := x; exact Heap.lt_size e
  | ins C dx fs => obtain ⟨_, _, _, e, _⟩ := x; exact Heap.lt_size e
  | own y => obtain ⟨_, e⟩ := x; exact Heap.lt_size e
  | xd fs => obtain ⟨_, ⟨_, _, _, e, _⟩, _⟩ := x; exact Heap.lt_size e
  | rng lo hi => obtain ⟨_, _, _, e⟩ := x; exact Heap.lt_size e
  | frz ob u => obtain ⟨e, _⟩ := x; exact Heap.lt_size e
  | tbl ps => exact Heap.lt_size (show h.get? a = some _ from x)
  | met f y => exact Heap.lt_size (show h.get? a = some _ from x)
  | ext φ => obtain ⟨_, ⟨_, e⟩, _⟩ := x; exact Heap.lt_size e
theorem Paired.mapP {α β : Type} {F G : α → β → Prop} : ∀ {l₁ : List α} {l₂ : List β}, Paired F l₁ l₂ → (∀ a b, F a b → G a b) → Paired G l₁ l₂
  | _, _, .nil, _ => .nil
  | _, _, .cons r t, f => .cons (f _ _ r) (Paired.mapP t f)
theorem ObjOk.stay (x : ObjOk P w H h a o) (k : ∀ b u, (b = a ∨ H b = some (.own a)) → h.get? b = some u → h'.get? b = some u)
    (ho : ∀ b, H b = some (.own a) → H' b = some (.own a)) (ht : ∀ b xs, H b = some (.tup xs) → H' b = some (.tup xs)) : ObjOk P w H' h' a o := by
  induction o with
  | lst xs => obtain ⟨z, its, n, r, e⟩ := x; exact ⟨z, its, n, r, k _ _ (.inl rfl) e⟩
  | tup xs => obtain ⟨z, its, r, ob, e, c⟩ := x; exact ⟨z, its, r, ob, k _ _ (.inl rfl) e, c⟩
  | dK kvs => obtain ⟨z, y, vs, r, ob, es, ep, e, c⟩ := x; exact ⟨z, y, vs, r, ob, es, ep, k _ _ (.inl rfl) e, c⟩
  | dT kvs =>
    obtain ⟨z, y, xs, r, ob, es, ep, e, c⟩ := x
    exact ⟨z, y, xs, Paired.mapP r fun p q z => ⟨z.1, ht _ _ z.2.1, z.2.2⟩, ob, es, ep, k _ _ (.inl rfl) e, c⟩
  | set S n => obtain ⟨ob, es, ep, t, e, c⟩ := x; exact ⟨ob, es, ep, t, k _ _ (.inl rfl) e, c⟩
  | ins C dx fs =>
    obtain ⟨d, z, ne, e, mA, ⟨od, es, ep, e2, c⟩, r⟩ := x
    exact ⟨ho _ d, z, ne, k _ _ (.inl rfl) e, mA, ⟨od, es, ep, k _ _ (.inr d) e2, c⟩, r⟩
  | own y => obtain ⟨ob, e⟩ := x; exact ⟨ob, k _ _ (.inl rfl) e⟩
  | xd fs => obtain ⟨mA, ⟨od, es, ep, e, c⟩, r⟩ := x; exact ⟨mA, ⟨od, es, ep, k _ _ (.inl rfl) e, c⟩, r⟩
  | rng lo hi => obtain ⟨t, u, v, e⟩ := x; exact ⟨t, u, v, k _ _ (.inl rfl) e⟩
  | frz ob u ih => obtain ⟨e, q⟩ := x; exact ⟨k _ _ (.inl rfl) e, ih q⟩
  | tbl ps =>
    have e : h.get? a = some { cls := .none, data := .fields ps } := x
    show h'.get? a = some { cls := .none, data := .fields ps }
    exact k a _ (.inl rfl) e
  | met f y =>
    have e : h.get? a = some (PySem.W.methodObj (.ref f) (.ref y)) := x
    show h'.get? a = some (PySem.W.methodObj (.ref f) (.ref y))
    exact k a _ (.inl rfl) e
  | ext φ => obtain ⟨p, ⟨o, e⟩, st⟩ := x; exact ⟨st _ _ p fun o q => k _ _ (.inl rfl) q, ⟨o, k _ _ (.inl rfl) e⟩, st⟩
theorem HOk.lt (x : HOk P w H h) (e : H a = some o) : a < h.objs.size := (x a o e).lt
theorem HOk.fresh (x : HOk P w H h) (e : h.objs.size ≤ a) : H a = none := by
  cases q : H a with
  | none => rfl
  | some u => exact absurd (Nat.lt_of_lt_of_le (x.lt q) e) (Nat.lt_irrefl _)
theorem HOk.kept (x : HOk P w H h) (k : ∀ b u, h.get? b = some u → h'.get? b = some u) : HOk P w H h' := fun a o e =>
  (x a o e).stay (fun b u _ q => k b u q) (fun _ q => q) fun _ _ q => q
theorem HOk.laid (x : HOk P w H h) (k : ∀ b u, h.get? b = some u → h'.get? b = some u) (hp : h.objs.size ≤ a) (new : ObjOk P w (upd H a o) h' a o) : HOk P w (upd H a o) h' := fun b u e => by
  have hn := x.fresh hp
  by_cases hb : b = a
  · subst hb; rw [upd_same] at e; cases e; exact new
  · rw [upd_ne hb] at e
    exact (x b u e).stay (fun c v _ q => k c v q) (fun c q => by rw [upd_ne (ne_of_none q hn)]; exact q) fun c xs q => by rw [upd_ne (ne_of_none q hn)]; exact q
end
def Rd (H : Hp) (a : Addr) (u : HO) : Prop := H a = some u ∨ ∃ o, H a = some (.frz o u)
theorem Rd.ok {P : Program} {w : World} {H : Hp} {h : Heap} {a : Addr} {u : HO} (r : Rd H a u) (x : HOk P w H h) : ObjOk P w H h a u := by
  rcases r with r | ⟨o, r⟩
  · exact x a u r
  · obtain ⟨_, q⟩ := x a _ r
    exact q
def Mut : Option HO → Prop
  | some (.lst _) => True
  | some (.dK _) => True
  | some (.dT _) => True
  | some (.set _ _) => True
  | some (.ins _ _ _) => True
  | some (.ext _) => True
  | _ => False
section
variable {P : Program} {w : World} {H : Hp} {h h' : Heap} {x e : Addr} {o' : HO}
theorem HOk.write (ok : HOk P w H h) (mu : Mut (H x)) (he : e = x ∨ H e = some (.own x)) (k : ∀ b u, b ≠ e → h.get? b = some u → h'.get? b = some u) (heo : ∃ u, h'.get? e = some u)
    (new : ObjOk P w (upd H x o') h' x o') : HOk P w (upd H x o') h' := fun b u q => by
  have nown : ∀ c y, H c = some (.own y) → c ≠ x := fun c y r z => by subst z; rw [r] at mu; exact mu
  have ntup : ∀ c xs, H c = some (.tup xs) → c ≠ x := fun c xs r z => by subst z; rw [r] at mu; exact mu
  by_cases hb : b = x
  · subst hb; rw [upd_same] at q; cases q; exact new
  · rw [upd_ne hb] at q
    by_cases hbe : b = e
    · have q' : H b = some (.own x) := by
        rcases he with z | z
        · exact absurd (hbe.trans z) hb
        · rw [hbe]; exact z
      rw [q] at q'; cases q'
      obtain ⟨v, hv⟩ := heo
      exact ⟨v, by rw [hbe]; exact hv⟩
    · refine (ok b u q).stay (fun c v hc r => k c v ?_ r) (fun c r => by rw [upd_ne (nown c b r)]; exact r) fun c xs r => by rw [upd_ne (ntup c xs r)]; exact r
      rcases hc with rfl | hc
      · exact hbe
      · rintro rfl
        rcases he with z | z
        · exact nown c b hc z
        · rw [hc] at z; cases z; exact hb rfl
end
structure Un (fs ex : List Addr) (H H' : Hp) (h h' : Heap) : Prop where
  keep : ∀ b o, h.get? b = some o → H b = none → b ∉ fs → b ∉ ex → h'.get? b = some o
  slot : ∀ b o, h.get? b = some o → H b = none → b ∈ fs → b ∉ ex → ∃ sl, h'.get? b = some { o with slots := sl }
  free : ∀ b o, h.get? b = some o → H b = none → b ∉ ex → H' b = none
  there : ∀ b o, h.get? b = some o → b ∉ ex → ∃ o', h'.get? b = some o'
  tups : ∀ b xs, H b = some (.tup xs) → H' b = some (.tup xs)
  frzs : ∀ b o u, H b = some (.frz o u) → H' b = some (.frz o u)
  tbls : ∀ b ps, H b = some (.tbl ps) → ∃ more, H' b = some (.tbl (ps ++ more))
section
variable {fs fs' ex ex' : List Addr} {H H1 H2 : Hp} {h h1 h2 h' : Heap} {a x e : Addr} {o : HO}
theorem Un.any (u : Un fs ex H H1 h h1) {b : Addr} {ob : Obj} (q : h.get? b = some ob) (n : H b = none) (hx : b ∉ ex) : ∃ sl, h1.get? b = some { ob with slots := sl } := by
  by_cases hb : b ∈ fs
  · exact u.slot b ob q n hb hx
  · exact ⟨ob.slots, u.keep b ob q n hb hx⟩
theorem Un.kept (k : ∀ b u, h.get? b = some u → h'.get? b = some u) : Un fs ex H H h h' :=
  ⟨fun b ob q _ _ _ => k b ob q, fun b ob q _ _ _ => ⟨ob.slots, k b ob q⟩, fun _ _ _ n _ => n, fun b ob q _ => ⟨ob, k b ob q⟩, fun _ _ q => q, fun _ _ _ q => q, fun _ ps q => ⟨#[], by rw [q]; simp⟩⟩
theorem Un.refl : Un fs ex H H h h := Un.kept fun _ _ q => q
theorem Un.laid (k : ∀ b u, h.get? b = some u → h'.get? b = some u) (hp : h.objs.size ≤ a) (hn : H a = none) : Un fs ex H (upd H a o) h h' where
  keep := fun b u q _ _ _ => k b u q
  slot := fun b u q _ _ _ => ⟨u.slots, k b u q⟩
  free := fun b u q n _ => by rw [upd_ne (Nat.ne_of_lt (Nat.lt_of_lt_of_le (Heap.lt_size q) hp))]; exact n
  there := fun b u q _ => ⟨u, k b u q⟩
  tups := fun b xs q => by rw [upd_ne (ne_of_none q hn)]; exact q
  frzs := fun b u xs q => by rw [upd_ne (ne_of_none q hn)]; exact q
  tbls := fun b ps q => ⟨#[], by rw [upd_ne (ne_of_none q hn), q]; simp⟩
theorem Un.write (mu : Mut (H x)) (he : e = x ∨ H e = some (.own x)) (k : ∀ b u, b ≠ e → h.get? b = some u → h'.get? b = some u) (heo : ∃ u, h'.get? e = some u) : Un fs ex H (upd H x o) h h' := by
  have hx : ∀ b, H b = none → b ≠ x := fun b n z => by subst z; rw [n] at mu; exact mu
  have hb : ∀ b, H b = none → b ≠ e := fun b n z => by
    subst z
    rcases he with r | r
    · exact hx b n r
    · rw [n] at r; cases r
  have hm : ∀ b u, H b = some u → ¬ Mut (some u) → b ≠ x := fun b u q nm z => by subst z; rw [q] at mu; exact nm mu
  refine ⟨fun b u q n _ _ => k b u (hb b n) q, fun b u q n _ _ => ⟨u.slots, k b u (hb b n) q⟩, fun b u q n _ => by rw [upd_ne (hx b n)]; exact n, fun b u q _ => ?_,
    fun b xs q => by rw [upd_ne (hm b _ q fun z => z)]; exact q, fun b u xs q => by rw [upd_ne (hm b _ q fun z => z)]; exact q, fun b ps q => ⟨#[], by rw [upd_ne (hm b _ q fun z => z), q]; simp⟩⟩
  by_cases hbe : b = e
  · subst hbe; exact heo
  · exact ⟨u, k b u hbe q⟩
end
def trk (h : Heap) (H : Hp) : List Addr := (List.range h.objs.size).filter fun a => (H a).isSome
def hidT (h : Heap) (H : Hp) : Heap := PySem.W.hideAll h (trk h H)
theorem hidT_size (h : Heap) (H : Hp) : (hidT h H).objs.size = h.objs.size := PySem.W.hideAll_size _ _
theorem hidT_get {h : Heap} {H : Hp} {b : Addr} {o : Obj} (e : h.get? b = some o) (n : H b = none) : (hidT h H).get? b = some o :=
  PySem.W.hideAll_get _ e fun hm => by
    have q : (H b).isSome = true := (List.mem_filter.mp hm).2
    rw [n] at q; simp at q
theorem of_hidT {h : Heap} {H : Hp} {b : Addr} {o : Obj} (e : (hidT h H).get? b = some o) : h.get? b = some o ∧ H b = none := by
  have e' : h.get? b = some o := PySem.W.of_hideAll (trk h H) e
  refine ⟨e', ?_⟩
  cases q : H b with
  | none => rfl
  | some x =>
    have hm : b ∈ trk h H := List.mem_filter.mpr ⟨List.mem_range.mpr (Heap.lt_size e'), by simp [q]⟩
    have z : (hidT h H).get? b = none := PySem.W.hideAll_none (trk h H) hm
    rw [z] at e; cases e
def allNews (g h : Heap) (L : Addr) : List (Addr × Obj) := (List.range h.objs.size).filterMap fun a => if a = L ∨ (g.get? a).isSome = true then none else (h.get? a).map fun o => (a, o)
def rest (g h : Heap) (L d : Addr) : List (Addr × Obj) := (allNews g h L).filter fun p => decide (p.1 ≠ d)
end L2
namespace L2
open PySem PySem.Spec PyProof.Rows
structure Mod (K : PySem.W.Frag) (mg : Str → Option Value) (base : Heap) : Prop where
  kin : K.In base
  glob : base.Ns mainGlobals mg
  blt : ∃ mb, base.Ns builtinsNs mb ∧ ∀ x : Str, x ≠ "__name__" → mb x = bootBuiltins x
  nolimit : base.NoLimit
structure Cx where
  prog : Program
  w : World
  K : PySem.W.Frag
  mg : Str → Option Value
  base : Heap
  A : Around
  N : List Str
  s₀ : Shared
  H₀ : Hp
  env : Env
  outer : List Env
  stack : List Env
  ex : List Addr
  fn : Str → Bool
  calm : Bool
  pn : List (Addr × Obj)
  xe : Value → Shared → Prop
def frs (l : List Env) : List Addr := l.filterMap (·.frame)
abbrev Cx.fs (X : Cx) : List Addr := frs X.outer
def Vis (sc : Scope) (x : Str) : Prop := sc.names.lookup x = some .local ∨ sc.names.lookup x = some .cell ∨ sc.names.lookup x = some .free
def Loc (sc : Scope) (x : Str) : Prop := sc.names.lookup x = some .local ∨ sc.names.lookup x = some .cell
def Look (env : Env) (h : Heap) (m : Str → Option Value) (x : Str) (u : Value) : Prop :=
  (env.kindOf x = some .local ∧ m x = some u) ∨ ((env.kindOf x = some .cell ∨ env.kindOf x = some .free) ∧ ∃ c, env.cells.lookup x = some c ∧ h.IsCell c (some u))
structure Cx.Ok (X : Cx) : Prop where
  mod : Mod X.K X.mg X.base
  kind : X.env.scope.kind = .function
  glob : X.env.globals = mainGlobals
  blt : X.env.builtins = builtinsNs
  above : X.s₀.heap.objs.size ≤ X.env.locals
  inj : ∀ x y c, X.env.cells.lookup x = some c → X.env.cells.lookup y = some c → x = y
  has : ∀ x, (X.env.kindOf x = some .cell ∨ X.env.kindOf x = some .free) → ∃ c, X.env.cells.lookup x = some c
  cab : ∀ x c, X.fn x = true → X.env.cells.lookup x = some c → X.s₀.heap.objs.size ≤ c
  hd : X.calm = true → X.A.handled = none
  frames : X.A.frames = some X.stack
  stk : X.stack = X.outer ∨ (X.stack = X.env :: X.outer ∧ X.env.frame = some X.env.locals)
  exf : ∀ b ∈ X.ex, b ≠ X.env.locals ∧ ∀ x c, X.env.cells.lookup x = some c → c ≠ b
  bs : ∀ b o, X.base.get? b = some o → X.s₀.heap.get? b = some o ∧ X.H₀ b = none
  bsz : X.base.objs.size ≤ X.s₀.heap.objs.size
  noex : ∀ b o, X.base.get? b = some o → b ∉ X.ex
  exfs : ∀ b ∈ X.ex, b ∉ X.fs
  funs : X.s₀.heap.FunFrames X.base X.outer
  frf : ∀ b ∈ X.fs, X.H₀ b = none
structure Inv (X : Cx) (pins : List (Addr × Obj)) (σ : List (Option V)) (H : Hp) (s : Shared) : Prop where
  ok : X.Ok
  os : s.os = X.s₀.os
  bare : AllBare s.gens
  base : Un X.fs X.ex X.H₀ H X.s₀.heap s.heap
  loc : ∃ m, s.heap.Ns X.env.locals m ∧ ∀ (i : Nat) (x : Str) (v : V), X.N[i]? = some x → σ[i]? = some (some v) → Vis X.env.scope x → ∃ u, RelV v u ∧ Look X.env s.heap m x u
  cell : ∀ x c, X.env.cells.lookup x = some c → ∃ v, s.heap.IsCell c v
  free : H X.env.locals = none
  freeC : ∀ x c, X.env.cells.lookup x = some c → H c = none
  pin : ∀ p ∈ X.pn ++ pins, s.heap.get? p.1 = some p.2 ∧ H p.1 = none ∧ p.1 ≠ X.env.locals ∧ p.1 ∉ X.fs ∧ ∀ v, p.2.data ≠ .cell v
  hok : HOk X.prog X.w H s.heap
  len : σ.length = X.N.length
section
variable {X : Cx} {pins : List (Addr × Obj)} {σ : List (Option V)} {H H' : Hp} {s : Shared} {h' : Heap}
theorem Cx.Ok.nofr (ok : X.Ok) {b : Addr} {o : Obj} (e : X.base.get? b = some o) : b ∉ X.fs := fun hb => by
  have := (ok.funs.mem hb).1
  rw [e] at this; cases this
theorem Inv.bs (I : Inv X pins σ H s) : ∀ b o, X.base.get? b = some o → s.heap.get? b = some o ∧ H b = none := fun b o e =>
  ⟨I.base.keep b o (I.ok.bs b o e).1 (I.ok.bs b o e).2 (I.ok.nofr e) (I.ok.noex b o e), I.base.free b o (I.ok.bs b o e).1 (I.ok.bs b o e).2 (I.ok.noex b o e)⟩
theorem Inv.bk (I : Inv X pins σ H s) : ∀ b o, X.base.get? b = some o → s.heap.get? b = some o := fun b o e => (I.bs b o e).1
theorem Inv.mod (I : Inv X pins σ H s) : Mod X.K X.mg X.base := I.ok.mod
theorem Inv.kIn (I : Inv X pins σ H s) : X.K.In s.heap := I.ok.mod.kin.keeps I.bk
theorem Inv.fr (I : Inv X pins σ H s) : ∃ m, Fr X.base X.env.locals s.heap m :=
  let ⟨m, hn, _⟩ := I.loc
  ⟨m, hn, I.bk, Nat.le_trans I.ok.bsz I.ok.above⟩
theorem Inv.lt (I : Inv X pins σ H s) : X.env.locals < s.heap.objs.size := let ⟨_, hn, _⟩ := I.loc; hn.lt
theorem Inv.sz (I : Inv X pins σ H s) : X.s₀.heap.objs.size ≤ s.heap.objs.size := Nat.le_trans I.ok.above (Nat.le_of_lt I.lt)
theorem Inv.nofs (I : Inv X pins σ H s) {a : Addr} (h : s.heap.objs.size ≤ a) : a ∉ X.fs := fun hb => by
  obtain ⟨_, o, ho, _⟩ := I.ok.funs.mem hb
  exact absurd (Nat.lt_of_lt_of_le (Heap.lt_size ho) (Nat.le_trans I.sz h)) (Nat.lt_irrefl _)
theorem Inv.cne (I : Inv X pins σ H s) : ∀ x c, X.env.cells.lookup x = some c → c ≠ X.env.locals := fun x c e z => by
  obtain ⟨v, o, ho, hd⟩ := I.cell x c e
  obtain ⟨m, ⟨o', es, ep, ho', hd', _⟩, _⟩ := I.loc
  rw [z, ho'] at ho; cases ho; rw [hd'] at hd; cases hd
theorem Inv.funs (I : Inv X pins σ H s) : s.heap.FunFrames X.base X.outer := by
  have all : ∀ (l : List Env), (∀ b ∈ frs l, b ∈ X.fs) → X.s₀.heap.FunFrames X.base l → s.heap.FunFrames X.base l := by
    intro l
    induction l with
    | nil => intro _ _; trivial
    | cons env r ih =>
      intro hs hl
      obtain ⟨hk, ⟨L, o, hf, hn, ho, hd⟩, hr⟩ := hl
      have hL : L ∈ X.fs := hs L (by unfold frs; rw [List.filterMap_cons, hf]; exact List.mem_cons_self)
      obtain ⟨sl, e⟩ := I.base.slot L o ho (I.ok.frf L hL) hL fun z => I.ok.exfs L z hL
      exact ⟨hk, ⟨L, _, hf, hn, e, hd⟩, ih (fun b hb => hs b (by unfold frs; rw [List.filterMap_cons, hf]; exact List.mem_cons_of_mem _ hb)) hr⟩
  exact all X.outer (fun _ hb => hb) I.ok.funs
theorem Inv.stack (I : Inv X pins σ H s) : s.heap.FunFrames X.base X.stack := by
  rcases I.ok.stk with e | ⟨e, hf⟩
  · rw [e]; exact I.funs
  · rw [e]
    obtain ⟨m, hn, _⟩ := I.loc
    refine .cons (by rw [I.ok.kind]; decide) hf hn ?_ I.funs
    exact Heap.get?_none_of_le (Nat.le_trans I.ok.bsz I.ok.above)
theorem Inv.stkSub (I : Inv X pins σ H s) : ∀ b ∈ frs X.stack, b ∈ X.env.locals :: X.fs := fun b hb => by
  rcases I.ok.stk with e | ⟨e, hf⟩
  · rw [e] at hb; exact List.mem_cons_of_mem _ hb
  · rw [e] at hb
    unfold frs at hb
    rw [List.filterMap_cons, hf] at hb
    exact hb
theorem Inv.stkFree (I : Inv X pins σ H s) : ∀ b ∈ frs X.stack, H b = none := fun b hb => by
  rcases List.mem_cons.mp (I.stkSub b hb) with e | hb
  · rw [e]; exact I.free
  · obtain ⟨_, o, ho, _⟩ := I.ok.funs.mem hb
    exact I.base.free b o ho (I.ok.frf b hb) fun z => I.ok.exfs b z hb
theorem Inv.step {g' : Array GenState} {t' : Nat} {d' : Drawn} {ch : List Addr} (I : Inv X pins σ H s)
    (hch : ∀ b ∈ ch, (b ∈ X.ex ∨ X.s₀.heap.objs.size ≤ b) ∧ b ≠ X.env.locals ∧ (∀ x c, X.env.cells.lookup x = some c → c ≠ b) ∧ ∀ p ∈ X.pn ++ pins, p.1 ≠ b)
    (keep : ∀ b o, b ≠ X.env.locals → b ∉ X.fs → b ∉ ch → s.heap.get? b = some o → H b = none → h'.get? b = some o)
    (slot : ∀ b o, b ≠ X.env.locals → b ∈ X.fs → b ∉ ch → s.heap.get? b = some o → H b = none → ∃ sl, h'.get? b = some { o with slots := sl }) (free : ∀ b o, b ∉ ch → s.heap.get? b = some o → H b = none → H' b = none)
    (there : ∀ b o, b ∉ ch → s.heap.get? b = some o → ∃ o', h'.get? b = some o')
    (tups : ∀ b xs, H b = some (.tup xs) → H' b = some (.tup xs)) (frzs : ∀ b o u, H b = some (.frz o u) → H' b = some (.frz o u)) (tbls : ∀ b ps, H b = some (.tbl ps) → ∃ more, H' b = some (.tbl (ps ++ more)))
    (ns : ∀ m, s.heap.Ns X.env.locals m → h'.Ns X.env.locals m) (hok : HOk X.prog X.w H' h') (hg : AllBare g') :
    Inv X pins σ H' { s with heap := h', gens := g', drawn := d', toks := t' } := by
  have neL : ∀ b o, X.s₀.heap.get? b = some o → b ≠ X.env.locals := fun b o e => Nat.ne_of_lt (Nat.lt_of_lt_of_le (Heap.lt_size e) I.ok.above)
  have neC : ∀ b o, X.s₀.heap.get? b = some o → b ∉ X.ex → b ∉ ch := fun b o e hx hb => by
    rcases (hch b hb).1 with z | z
    · exact hx z
    · exact absurd (Nat.lt_of_lt_of_le (Heap.lt_size e) z) (Nat.lt_irrefl _)
  have cellK : ∀ x c, X.env.cells.lookup x = some c → ∀ v, s.heap.IsCell c v → h'.IsCell c v := fun x c e v ⟨o, ho, hd⟩ => by
    have nch : c ∉ ch := fun z => (hch c z).2.2.1 x c e rfl
    by_cases hc : c ∈ X.fs
    · obtain ⟨sl, q⟩ := slot c o (I.cne x c e) hc nch ho (I.freeC x c e)
      exact ⟨_, q, hd⟩
    · exact ⟨o, keep c o (I.cne x c e) hc nch ho (I.freeC x c e), hd⟩
  refine ⟨I.ok, I.os, hg, ⟨fun b o e n hb hx => ?_, fun b o e n hb hx => ?_, fun b o e n hx => ?_, fun b o e hx => ?_, fun b xs e => tups b xs (I.base.tups b xs e), fun b o xs e => frzs b o xs (I.base.frzs b o xs e), fun b ps e => ?_⟩, ?_, fun x c e => ?_, ?_, fun x c e => ?_, fun p hp => ?_, hok, I.len⟩
  · exact keep b o (neL b o e) hb (neC b o e hx) (I.base.keep b o e n hb hx) (I.base.free b o e n hx)
  · obtain ⟨sl, e1⟩ := I.base.slot b o e n hb hx
    obtain ⟨sl', e2⟩ := slot b _ (neL b o e) hb (neC b o e hx) e1 (I.base.free b o e n hx)
    exact ⟨sl', e2⟩
  · obtain ⟨o', e1⟩ := I.base.there b o e hx
    exact free b o' (neC b o e hx) e1 (I.base.free b o e n hx)
  · obtain ⟨o', e1⟩ := I.base.there b o e hx
    exact there b o' (neC b o e hx) e1
  · obtain ⟨m1, e1⟩ := I.base.tbls b ps e
    obtain ⟨m2, e2⟩ := tbls b _ e1
    exact ⟨m1 ++ m2, by rw [e2, Array.append_assoc]⟩
  · obtain ⟨m, hn, hl⟩ := I.loc
    refine ⟨m, ns m hn, fun i x v e1 e2 e3 => ?_⟩
    obtain ⟨u, r, l⟩ := hl i x v e1 e2 e3
    refine ⟨u, r, ?_⟩
    rcases l with l | ⟨k, c, e, z⟩
    · exact .inl l
    · exact .inr ⟨k, c, e, cellK x c e _ z⟩
  · obtain ⟨v, z⟩ := I.cell x c e
    exact ⟨v, cellK x c e v z⟩
  · obtain ⟨m, ⟨o, _, _, ho, _⟩, _⟩ := I.loc
    exact free _ o (fun z => (hch _ z).2.1 rfl) ho I.free
  · obtain ⟨v, o, ho, hd⟩ := I.cell x c e
    exact free c o (fun z => (hch c z).2.2.1 x c e rfl) ho (I.freeC x c e)
  · obtain ⟨e, n, ne, nf, d⟩ := I.pin p hp
    have nch : p.1 ∉ ch := fun z => (hch p.1 z).2.2.2 p hp rfl
    exact ⟨keep p.1 p.2 ne nf nch e n, free p.1 p.2 nch e n, ne, nf, d⟩
theorem Inv.un {t' : Nat} (I : Inv X pins σ H s) (u : Un X.fs [] H H' s.heap h') (hok : HOk X.prog X.w H' h') : Inv X pins σ H' { s with heap := h', toks := t' } := by
  obtain ⟨m, ⟨o, es, ep, ho, r⟩, _⟩ := id I.loc
  obtain ⟨sl, hL⟩ := u.any ho I.free (by simp)
  exact I.step (g' := s.gens) (d' := s.drawn) (ch := []) (fun _ z => nomatch z) (fun b o _ hb _ e n => u.keep b o e n hb (by simp)) (fun b o _ hb _ e n => u.slot b o e n hb (by simp)) (fun b o _ e n => u.free b o e n (by simp)) (fun b o _ e => u.there b o e (by simp)) u.tups u.frzs u.tbls (fun m' hm => by
    obtain ⟨o', es', ep', ho', r'⟩ := hm
    rw [ho] at ho'; cases ho'
    exact ⟨_, es', ep', hL, r'⟩) hok I.bare
theorem Inv.call {g' : Array GenState} {t' : Nat} {d' : Drawn} {ch : List Addr} (I : Inv X pins σ H s) (u : Un (frs X.stack) ch H H' s.heap h') (hok : HOk X.prog X.w H' h') (hg : AllBare g')
    (hch : ∀ b ∈ ch, (b ∈ X.ex ∨ X.s₀.heap.objs.size ≤ b) ∧ b ≠ X.env.locals ∧ (∀ x c, X.env.cells.lookup x = some c → c ≠ b) ∧ ∀ p ∈ X.pn ++ pins, p.1 ≠ b) :
    Inv X pins σ H' { s with heap := h', gens := g', drawn := d', toks := t' } := by
  obtain ⟨m, ⟨o, es, ep, ho, r⟩, _⟩ := id I.loc
  obtain ⟨sl, hL⟩ := u.any ho I.free fun z => (hch _ z).2.1 rfl
  exact I.step (ch := ch) hch (fun b o hL hb hc e n => u.keep b o e n (fun z => (List.mem_cons.mp (I.stkSub b z)).elim hL hb) hc) (fun b o _ _ hc e n => u.any e n hc) (fun b o hc e n => u.free b o e n hc) (fun b o hc e => u.there b o e hc) u.tups u.frzs u.tbls (fun m' hm => by
    obtain ⟨o', es', ep', ho', r'⟩ := hm
    rw [ho] at ho'; cases ho'
    exact ⟨_, es', ep', hL, r'⟩) hok hg
theorem Inv.turned {t' : Nat} {it : Addr} (I : Inv X pins σ H s) (k : ∀ b o, b ≠ it → s.heap.get? b = some o → h'.get? b = some o) (hn : H it = none) (hL : it ≠ X.env.locals)
    (h1 : it ∈ X.ex ∨ X.s₀.heap.objs.size ≤ it) (h2 : ∀ x c, X.env.cells.lookup x = some c → c ≠ it) (h3 : ∀ p ∈ X.pn ++ pins, p.1 ≠ it) : Inv X pins σ H { s with heap := h', toks := t' } := by
  have nit : ∀ b u, H b = some u → b ≠ it := fun b u e z => by rw [z, hn] at e; cases e
  refine I.step (g' := s.gens) (d' := s.drawn) (ch := [it]) (fun b hb => ?_) (fun b o _ _ hc e _ => k b o (fun z => hc (by simp [z])) e) (fun b o _ _ hc e _ => ⟨o.slots, k b o (fun z => hc (by simp [z])) e⟩) (fun _ _ _ _ n => n)
    (fun b o hc e => ⟨o, k b o (fun z => hc (by simp [z])) e⟩) (fun _ _ e => e) (fun _ _ _ e => e) (fun b ps e => ⟨#[], by rw [e]; simp⟩) (fun m hm => ?_) (fun b u e => ?_) I.bare
  · have e : b = it := by simpa using hb
    subst e
    exact ⟨h1, hL, h2, h3⟩
  · obtain ⟨o, es, ep, ho, r⟩ := hm
    exact ⟨o, es, ep, k _ o (Ne.symm hL) ho, r⟩
  · refine (I.hok b u e).stay (fun c v hc q => k c v ?_ q) (fun _ q => q) fun _ _ q => q
    rcases hc with z | z
    · rw [z]; exact nit b u e
    · exact nit c _ z
theorem Inv.tok (I : Inv X pins σ H s) (t : Nat) : Inv X pins σ H { s with toks := t } := I.un (h' := s.heap) (t' := t) Un.refl I.hok
theorem Inv.kept {t' : Nat} (I : Inv X pins σ H s) (k : ∀ b u, s.heap.get? b = some u → h'.get? b = some u) : Inv X pins σ H { s with heap := h', toks := t' } := I.un (Un.kept k) (I.hok.kept k)
theorem Inv.laid {a : Addr} {o : HO} {t' : Nat} (I : Inv X pins σ H s) (k : ∀ b u, s.heap.get? b = some u → h'.get? b = some u) (hp : s.heap.objs.size ≤ a) (new : ObjOk X.prog X.w (upd H a o) h' a o) :
    Inv X pins σ (upd H a o) { s with heap := h', toks := t' } := I.un (Un.laid k hp (I.hok.fresh hp)) (I.hok.laid k hp new)
theorem Inv.write {x e : Addr} {o : HO} {t' : Nat} (I : Inv X pins σ H s) (mu : Mut (H x)) (he : e = x ∨ H e = some (.own x)) (k : ∀ b u, b ≠ e → s.heap.get? b = some u → h'.get? b = some u) (heo : ∃ u, h'.get? e = some u)
    (new : ObjOk X.prog X.w (upd H x o) h' x o) : Inv X pins σ (upd H x o) { s with heap := h', toks := t' } := I.un (Un.write mu he k heo) (I.hok.write mu he k heo new)
theorem Inv.weak {σ' : List (Option V)} (I : Inv X pins σ H s) (hl : σ'.length = σ.length) (w : ∀ (i : Nat) v, σ'[i]? = some (some v) → σ[i]? = some (some v)) : Inv X pins σ' H s :=
  ⟨I.ok, I.os, I.bare, I.base, let ⟨m, hn, hl'⟩ := I.loc; ⟨m, hn, fun i x v e1 e2 e3 => hl' i x v e1 (w i v e2) e3⟩, I.cell, I.free, I.freeC, I.pin, I.hok, hl.trans I.len⟩
theorem Inv.pins_of {pins' : List (Addr × Obj)} (I : Inv X pins σ H s) (h : ∀ p ∈ pins', s.heap.get? p.1 = some p.2 ∧ H p.1 = none ∧ p.1 ≠ X.env.locals ∧ p.1 ∉ X.fs ∧ ∀ v, p.2.data ≠ .cell v) : Inv X pins' σ H s :=
  ⟨I.ok, I.os, I.bare, I.base, I.loc, I.cell, I.free, I.freeC, fun p hp => (List.mem_append.mp hp).elim (fun z => I.pin p (List.mem_append_left _ z)) (h p), I.hok, I.len⟩
theorem nodup_ix {N : List Str} (hN : N.Nodup) {i j : Nat} {x : Str} (a : N[i]? = some x) (b : N[j]? = some x) : i = j := by
  obtain ⟨h1, e1⟩ := List.getElem?_eq_some_iff.mp a
  obtain ⟨h2, e2⟩ := List.getElem?_eq_some_iff.mp b
  exact (List.getElem_inj hN).mp (e1.trans e2.symm)
theorem store_ok2 {M : Model} {A : Around} {E : Value → Shared → Prop} {i : Nat} {x : Str} {v : V} {u : Value} {Q : Unit → Shared → Prop} (I : Inv X pins σ H s) (hN : X.N.Nodup) (hi : X.N[i]? = some x) (hx : Loc X.env.scope x) (r : RelV v u)
    (h : ∀ s', Inv X pins (σ.set i (some v)) H s' → (∃ a, Heap.SameBut a s.heap s'.heap ∧ (a = X.env.locals ∨ X.env.cells.lookup x = some a)) → Q () s') (hf : X.fn x = true ∨ X.env.scope.names.lookup x = some .local := by first | exact .inl rfl | exact .inr rfl | assumption) : wpAny M A (storeName X.env x u) Q E s := by
  obtain ⟨m, hn, hl⟩ := id I.loc
  have hcls : (X.env.scope.kind == .class || (X.env.scope.kind == .module && X.env.locals != X.env.globals)) = false := by rw [I.ok.kind]; rfl
  have hiσ : i < σ.length := by rw [I.len]; exact (List.getElem?_eq_some_iff.mp hi).1
  have cne := I.cne
  have tracked : ∀ {a : Addr} {h' : Heap}, (∃ o, s.heap.get? a = some o ∧ H a = none) → Heap.SameBut a s.heap h' → HOk X.prog X.w H h' := fun {a h'} ha hs b ob e => by
    obtain ⟨_, _, hfree⟩ := ha
    refine (I.hok b ob e).stay (fun c w' hc q => (hs.2 c ?_).trans q) (fun _ q => q) fun _ _ q => q
    rintro rfl
    rcases hc with rfl | hc
    · rw [hfree] at e; cases e
    · rw [hfree] at hc; cases hc
  rcases hx with hk | hk
  · refine wpAny_storeName_local hk hn (fun h' hn' hs => ?_) hcls
    obtain ⟨oL, _, _, hoL, _⟩ := id hn
    refine h _ ⟨I.ok, I.os, I.bare, ⟨fun b o e n hb hx => ?_, fun b o e n hb hx => ?_, I.base.free, fun b o e hx => ?_, I.base.tups, I.base.frzs, I.base.tbls⟩, ⟨_, hn', fun j y v' e1 e2 e3 => ?_⟩, fun y c e => ?_, I.free, I.freeC, fun p hp => ?_, tracked ⟨oL, hoL, I.free⟩ hs, by simpa using I.len⟩ ⟨_, hs, .inl rfl⟩
    · exact (hs.2 b (Nat.ne_of_lt (Nat.lt_of_lt_of_le (Heap.lt_size e) I.ok.above))).trans (I.base.keep b o e n hb hx)
    · obtain ⟨sl, e1⟩ := I.base.slot b o e n hb hx
      exact ⟨sl, (hs.2 b (Nat.ne_of_lt (Nat.lt_of_lt_of_le (Heap.lt_size e) I.ok.above))).trans e1⟩
    · obtain ⟨o', e1⟩ := I.base.there b o e hx
      exact ⟨o', (hs.2 b (Nat.ne_of_lt (Nat.lt_of_lt_of_le (Heap.lt_size e) I.ok.above))).trans e1⟩
    · by_cases hj : j = i
      · subst hj
        rw [hi] at e1; cases e1
        rw [List.getElem?_set_self hiσ] at e2
        cases e2
        exact ⟨u, r, .inl ⟨hk, by simp⟩⟩
      · rw [List.getElem?_set_ne (Ne.symm hj)] at e2
        obtain ⟨u', r', q⟩ := hl j y v' e1 e2 e3
        refine ⟨u', r', ?_⟩
        rcases q with ⟨k, e⟩ | ⟨k, c, e, z⟩
        · refine .inl ⟨k, ?_⟩
          have : y ≠ x := fun e => hj (nodup_ix hN e1 (e ▸ hi))
          simp [this, e]
        · exact .inr ⟨k, c, e, z.sameBut hs (cne y c e)⟩
    · obtain ⟨w', z⟩ := I.cell y c e
      exact ⟨w', z.sameBut hs (cne y c e)⟩
    · obtain ⟨e, n, ne, nf, d⟩ := I.pin p hp
      exact ⟨(hs.2 p.1 ne).trans e, n, ne, nf, d⟩
  · have hfn : X.fn x = true := by
      rcases hf with z | z
      · exact z
      · rw [z] at hk; cases hk
    obtain ⟨c, hc⟩ := I.ok.has x (.inl hk)
    obtain ⟨w', z⟩ := I.cell x c hc
    refine wpAny_storeName_cell I.ok.kind hk hc z (fun h' hc' hs => ?_)
    obtain ⟨oc, hoc, hocd⟩ := id z
    refine h { s with heap := h' } ⟨I.ok, I.os, I.bare, ⟨fun b o e n hb hx => ?_, fun b o e n hb hx => ?_, I.base.free, fun b o e hx => ?_, I.base.tups, I.base.frzs, I.base.tbls⟩, ⟨m, hn.sameBut hs (Ne.symm (cne x c hc)), fun j y v' e1 e2 e3 => ?_⟩, fun y c' e => ?_, I.free, I.freeC, fun p hp => ?_, tracked ⟨oc, hoc, I.freeC x c hc⟩ hs, by simpa using I.len⟩ ⟨c, hs, .inr hc⟩
    · exact (hs.2 b (Nat.ne_of_lt (Nat.lt_of_lt_of_le (Heap.lt_size e) (I.ok.cab x c hfn hc)))).trans (I.base.keep b o e n hb hx)
    · obtain ⟨sl, e1⟩ := I.base.slot b o e n hb hx
      exact ⟨sl, (hs.2 b (Nat.ne_of_lt (Nat.lt_of_lt_of_le (Heap.lt_size e) (I.ok.cab x c hfn hc)))).trans e1⟩
    · obtain ⟨o', e1⟩ := I.base.there b o e hx
      exact ⟨o', (hs.2 b (Nat.ne_of_lt (Nat.lt_of_lt_of_le (Heap.lt_size e) (I.ok.cab x c hfn hc)))).trans e1⟩
    · by_cases hj : j = i
      · subst hj
        rw [hi] at e1; cases e1
        rw [List.getElem?_set_self hiσ] at e2
        cases e2
        exact ⟨u, r, .inr ⟨.inl hk, c, hc, hc'⟩⟩
      · rw [List.getElem?_set_ne (Ne.symm hj)] at e2
        obtain ⟨u', r', q⟩ := hl j y v' e1 e2 e3
        refine ⟨u', r', ?_⟩
        rcases q with q | ⟨k, c', e, z'⟩
        · exact .inl q
        · refine .inr ⟨k, c', e, z'.sameBut hs ?_⟩
          rintro rfl
          exact hj (nodup_ix hN e1 (I.ok.inj _ _ _ e hc ▸ hi))
    · by_cases hcc : c' = c
      · subst hcc; exact ⟨_, hc'⟩
      · obtain ⟨w2, z2⟩ := I.cell y c' e
        exact ⟨w2, z2.sameBut hs hcc⟩
    · obtain ⟨e, n, ne, nf, d⟩ := I.pin p hp
      refine ⟨(hs.2 p.1 ?_).trans e, n, ne, nf, d⟩
      intro q
      rw [q, hoc] at e
      have q' : oc = p.2 := Option.some.inj e
      exact d w' (by rw [← q']; exact hocd)
theorem store_ok {M : Model} {A : Around} {E : Value → Shared → Prop} {i : Nat} {x : Str} {v : V} {u : Value} {Q : Unit → Shared → Prop} (I : Inv X pins σ H s) (hN : X.N.Nodup) (hi : X.N[i]? = some x) (hx : Loc X.env.scope x) (r : RelV v u)
    (h : ∀ s', Inv X pins (σ.set i (some v)) H s' → Q () s') (hf : X.fn x = true ∨ X.env.scope.names.lookup x = some .local := by first | exact .inl rfl | exact .inr rfl | assumption) : wpAny M A (storeName X.env x u) Q E s :=
  store_ok2 I hN hi hx r (fun s' I' _ => h s' I') hf
theorem Inv.call' {s' : Shared} {ch : List Addr} (I : Inv X pins σ H s) (ho : s'.os = s.os) (u : Un (frs X.stack) ch H H' s.heap s'.heap) (hok : HOk X.prog X.w H' s'.heap) (hg : AllBare s'.gens)
    (hch : ∀ b ∈ ch, (b ∈ X.ex ∨ X.s₀.heap.objs.size ≤ b) ∧ b ≠ X.env.locals ∧ (∀ x c, X.env.cells.lookup x = some c → c ≠ b) ∧ ∀ p ∈ X.pn ++ pins, p.1 ≠ b) : Inv X pins σ H' s' := by
  obtain ⟨h', g', d', t', o'⟩ := s'
  have e : o' = s.os := ho
  subst e
  exact I.call (g' := g') (t' := t') (d' := d') u hok hg hch
end
abbrev XK := Value → Option Addr → Hp → Prop
abbrev St := List (Option V)
abbrev VK := V → Hp → Prop
abbrev TE := St → Hp → VK → Prop
abbrev TT := St → Hp → (Bool → Hp → Prop) → Prop
abbrev TA := St → Hp → (List V → Hp → Prop) → Prop
structure Ends where
  nx : St → Hp → Prop
  rt : VK
  bk : St → Hp → Prop := fun _ _ => False
  ct : St → Hp → Prop := fun _ _ => False
abbrev TS := Ends → St → Hp → Prop
def EP (X : Cx) (pins : List (Addr × Obj)) (σ : St) (Q : VK) (u : Value) (s' : Shared) : Prop := ∃ v H', Inv X pins σ H' s' ∧ RelV v u ∧ Q v H'
def TP (X : Cx) (pins : List (Addr × Obj)) (σ : St) (Q : Bool → Hp → Prop) (b : Bool) (s' : Shared) : Prop := ∃ H', Inv X pins σ H' s' ∧ Q b H'
def AP (X : Cx) (pins : List (Addr × Obj)) (σ : St) (Q : List V → Hp → Prop) (us : List Value) (s' : Shared) : Prop := ∃ vs H', Inv X pins σ H' s' ∧ Vals vs us ∧ Q vs H'
def SP (X : Cx) (pins : List (Addr × Obj)) (D : Ends) (f : Flow) (s' : Shared) : Prop :=
  match f with
  | .next => ∃ σ' H', Inv X pins σ' H' s' ∧ D.nx σ' H'
  | .brk => ∃ σ' H', Inv X pins σ' H' s' ∧ D.bk σ' H'
  | .cont => ∃ σ' H', Inv X pins σ' H' s' ∧ D.ct σ' H'
  | .ret u => ∃ v σ' H', Inv X pins σ' H' s' ∧ RelV v u ∧ D.rt v H'
def PE (X : Cx) (e : Expr) (t : TE) : Prop :=
  ∀ (pins : List (Addr × Obj)) (s : Shared) (σ : St) (H : Hp) (Q : VK), Inv X pins σ H s → t σ H Q → wpAny (model X.prog X.w) X.A (eval e X.env) (EP X pins σ Q) X.xe s
def PT (X : Cx) (e : Expr) (t : TT) : Prop :=
  ∀ (pins : List (Addr × Obj)) (s : Shared) (σ : St) (H : Hp) (Q : Bool → Hp → Prop), Inv X pins σ H s → t σ H Q → wpAny (model X.prog X.w) X.A (isTrue e X.env (eval e X.env)) (TP X pins σ Q) X.xe s
def PW (X : Cx) (e : Expr) (t : TT) : Prop :=
  ∀ (whole : Sem Value) (pins : List (Addr × Obj)) (s : Shared) (σ : St) (H : Hp) (Q : Bool → Hp → Prop), Inv X pins σ H s → t σ H Q → wpAny (model X.prog X.w) X.A (isTrue e X.env whole) (TP X pins σ Q) X.xe s
theorem PW.pt {X : Cx} {e : Expr} {t : TT} (h : PW X e t) : PT X e t := h _
def PA (X : Cx) (es : List Expr) (t : TA) : Prop :=
  ∀ (pos : Pos) (pins : List (Addr × Obj)) (s : Shared) (σ : St) (H : Hp) (Q : List V → Hp → Prop), Inv X pins σ H s → t σ H Q → wpAny (model X.prog X.w) X.A (spliced (backTo pos (starEach es X.env))) (AP X pins σ Q) X.xe s
def PS (X : Cx) (st : Stmt) (t : TS) : Prop :=
  ∀ (pins : List (Addr × Obj)) (s : Shared) (σ : St) (H : Hp) (D : Ends), Inv X pins σ H s → t D σ H → wpAny (model X.prog X.w) X.A (exec st X.env) (SP X pins D) X.xe s
def PSs (X : Cx) (st : List Stmt) (t : TS) : Prop :=
  ∀ (pins : List (Addr × Obj)) (s : Shared) (σ : St) (H : Hp) (D : Ends), Inv X pins σ H s → t D σ H → wpAny (model X.prog X.w) X.A (execs st X.env) (SP X pins D) X.xe s
theorem thn {α : Type} {t : Sem α} {Q Q' : α → Shared → Prop} {M : Model} {A : Around} {E : Value → Shared → Prop} {s : Shared} (h : wpAny M A t Q E s) (hQ : ∀ a s, Q a s → Q' a s) : wpAny M A t Q' E s := wpAny_mono h hQ fun _ _ x => x
end L2
namespace L2
open PySem PySem.Spec PyProof.Rows
section
variable {X : Cx}
theorem bin {a b : Expr} {ta tb : TE} (ha : PE X a ta) (hb : PE X b tb) {pins : List (Addr × Obj)} {s : Shared} {σ : St} {H : Hp} {R : V → V → Hp → Prop} (I : Inv X pins σ H s) (h : ta σ H fun x H1 => tb σ H1 fun y H2 => R x y H2)
    {α : Type} {Q : α → Shared → Prop} {f : Value → Value → Sem α}
    (hf : ∀ v u s2 x y H2, Inv X pins σ H2 s2 → RelV x v → RelV y u → R x y H2 → wpAny (model X.prog X.w) X.A (f v u) Q X.xe s2) :
    wpAny (model X.prog X.w) X.A (eval a X.env) (fun v s₁ => wpAny (model X.prog X.w) X.A (eval b X.env) (fun u s₂ => wpAny (model X.prog X.w) X.A (f v u) Q X.xe s₂) X.xe s₁) X.xe s := by
  refine thn (ha pins s σ H _ I h) fun v s1 ⟨x, H1, I1, r1, q1⟩ => ?_
  refine thn (hb pins s1 σ H1 _ I1 q1) fun u s2 ⟨y, H2, I2, r2, q2⟩ => ?_
  exact hf v u s2 x y H2 I2 r1 r2 q2
def tVar (i : Nat) : TE := fun σ H Q => ∃ v, σ[i]? = some (some v) ∧ Q v H
def tC (v : V) : TE := fun _ H Q => Q v H
theorem pe_var {i : Nat} {x : Str} {pos : Pos} (hN : X.N[i]? = some x) (hv : Vis X.env.scope x) (hd : (x == ("__debug__" : Str)) = false := by decide) (hcd : (x == ("__classdict__" : Str)) = false := by decide) : PE X (.Name x pos) (tVar i) := by
  intro pins s σ H Q I h
  obtain ⟨v, e, h⟩ := h
  obtain ⟨m, hn, hl⟩ := I.loc
  obtain ⟨u, r, l⟩ := hl i x v hN e hv
  have fin : EP X pins σ Q u s := ⟨v, H, I, r, h⟩
  rcases l with ⟨hk, hm⟩ | ⟨hk, c, hc, hcell⟩
  · exact wpAny_Name (wpAny_loadName_local I.ok.kind hk hn hm fin) hd
  · rcases hk with hk | hk
    · exact wpAny_Name (wpAny_loadName_cell I.ok.kind hk hc hcell fin) hd
    · exact wpAny_Name (wpAny_loadName_free I.ok.kind hk hc hcell fin hcd) hd
theorem pe_int {i j pos} : PE X (.Constant (.int i) j pos) (tC (.int i)) := fun _ _ _ H _ I h => wpAny_Constant_int ⟨.int i, H, I.tok _, ⟨_, rfl⟩, h⟩
theorem pe_bl {b j pos} : PE X (.Constant (.bool b) j pos) (tC (.bl b)) := fun _ _ _ H _ I h => Constant_bool ⟨.bl b, H, I, rfl, h⟩
theorem pe_non {j pos} : PE X (.Constant .none j pos) (tC .non) := fun _ _ _ H _ I h => Constant_none ⟨.non, H, I, rfl, h⟩
theorem pe_str {x j pos} : PE X (.Constant (.str x) j pos) (tC (.str x)) := fun _ _ _ H _ I h => Calls.Constant_str ⟨.str x, H, I.tok _, ⟨_, rfl⟩, h⟩
def Gl (X : Cx) (x : Str) : Prop := X.env.kindOf x = some .globalImplicit
theorem ld_glob {E : Value → Shared → Prop} {pins : List (Addr × Obj)} {s : Shared} {σ : St} {H : Hp} {x : Str} {u : Value} {pos : Pos} {Q : Value → Shared → Prop} (I : Inv X pins σ H s) (hg : Gl X x) (hm : X.mg x = some u) (h : Q u s)
    (hd : (x == ("__debug__" : Str)) = false := by decide) : wpAny (model X.prog X.w) X.A (eval (.Name x pos) X.env) Q E s :=
  Calls.Name_function_global I.ok.kind hg (Calls.loadGlobal_global (by rw [I.ok.glob]; exact I.mod.glob.keeps I.bk) hm h) hd
theorem ld_blt {E : Value → Shared → Prop} {pins : List (Addr × Obj)} {s : Shared} {σ : St} {H : Hp} {x : Str} {u : Value} {pos : Pos} {Q : Value → Shared → Prop} (I : Inv X pins σ H s) (hg : Gl X x) (hm : X.mg x = none) (hv : bootBuiltins x = some u) (h : Q u s)
    (hn : x ≠ "__name__" := by decide) (hd : (x == ("__debug__" : Str)) = false := by decide) : wpAny (model X.prog X.w) X.A (eval (.Name x pos) X.env) Q E s := by
  obtain ⟨mb, h1, h2⟩ := I.mod.blt
  exact Calls.Name_function_global I.ok.kind hg (Calls.loadGlobal_builtin (by rw [I.ok.glob]; exact I.mod.glob.keeps I.bk) hm (by rw [I.ok.blt]; exact h1.keeps I.bk) ((h2 x hn).trans hv) h) hd
theorem pe_glob {x : Str} {v : V} {u : Value} {pos : Pos} (hg : Gl X x) (hm : X.mg x = some u) (r : RelV v u) (hd : (x == ("__debug__" : Str)) = false := by decide) : PE X (.Name x pos) (tC v) :=
  fun _ _ _ H _ I h => ld_glob I hg hm ⟨v, H, I, r, h⟩ hd
theorem pe_bltn {x : Str} {v : V} {u : Value} {pos : Pos} (hg : Gl X x) (hm : X.mg x = none) (hv : bootBuiltins x = some u) (r : RelV v u) (hn : x ≠ "__name__" := by decide) (hd : (x == ("__debug__" : Str)) = false := by decide) : PE X (.Name x pos) (tC v) :=
  fun _ _ _ H _ I h => ld_blt I hg hm hv ⟨v, H, I, r, h⟩ hn hd
variable {a b : Expr} {ta tb : TE} {pos : Pos}
def PC (X : Cx) (op : CmpOp) (a b : Expr) (t : TE) : Prop :=
  ∀ (pins : List (Addr × Obj)) (s : Shared) (σ : St) (H : Hp) (Q : VK), Inv X pins σ H s → t σ H Q →
    wpAny (model X.prog X.w) X.A (eval a X.env) (fun v s₁ => wpAny (model X.prog X.w) X.A (eval b X.env) (fun u s₂ => wpAny (model X.prog X.w) X.A (compareOp op v u) (EP X pins σ Q) X.xe s₂) X.xe s₁) X.xe s
theorem nobehind (b : Expr) {op : CmpOp} (h : op ≠ .In) (h2 : op ≠ .NotIn) : behindInMarks op b = false := by
  have e1 : (op == CmpOp.In) = false := by cases op <;> first | rfl | exact absurd rfl h
  have e2 : (op == CmpOp.NotIn) = false := by cases op <;> first | rfl | exact absurd rfl h2
  cases b <;> simp [behindInMarks, e1, e2]
def tB (t : TE) : TT := fun σ H Q => t σ H fun x H1 => ∃ c, x = .bl c ∧ Q c H1
theorem pe_cmp {op : CmpOp} {t : TE} (h : PC X op a b t) (h1 : behindInMarks op b = false := by first | exact nobehind _ (by decide) (by decide) | rfl) : PE X (.Compare a [op] [b] pos) t := fun pins s σ H Q I hw => wpAny_Compare1 (h pins s σ H Q I hw) h1
variable {tA tB' : TT} {rest : List Expr}
def tAnd (t u : TT) : TT := fun σ H Q => t σ H fun c H1 => if c = true then u σ H1 Q else Q false H1
def tOr (t u : TT) : TT := fun σ H Q => t σ H fun c H1 => if c = true then Q true H1 else u σ H1 Q
def tNot (t : TT) : TT := fun σ H Q => t σ H fun c H1 => Q (!c) H1
theorem pw_and1 (ha : PT X a tA) : PW X (.BoolOp .And [a] pos) tA := by
  intro wh pins s σ H Q I h
  refine isTrue_and (thn (ha pins s σ H Q I h) fun c s1 e => ?_)
  cases c with
  | true => exact isTrue_and_nil e
  | false => exact e
theorem pw_or1 (ha : PT X a tA) : PW X (.BoolOp .Or [a] pos) tA := by
  intro wh pins s σ H Q I h
  refine isTrue_or (thn (ha pins s σ H Q I h) fun c s1 e => ?_)
  cases c with
  | false => exact isTrue_or_nil e
  | true => exact e
theorem pw_and (ha : PT X a tA) (hb : PW X (.BoolOp .And (b :: rest) pos) tB') : PW X (.BoolOp .And (a :: b :: rest) pos) (tAnd tA tB') := by
  intro wh pins s σ H Q I h
  refine isTrue_and (thn (ha pins s σ H _ I h) fun c s1 ⟨H1, I1, q1⟩ => ?_)
  cases c with
  | true => exact hb wh pins s1 σ H1 Q I1 q1
  | false => exact ⟨H1, I1, q1⟩
theorem pw_or (ha : PT X a tA) (hb : PW X (.BoolOp .Or (b :: rest) pos) tB') : PW X (.BoolOp .Or (a :: b :: rest) pos) (tOr tA tB') := by
  intro wh pins s σ H Q I h
  refine isTrue_or (thn (ha pins s σ H _ I h) fun c s1 ⟨H1, I1, q1⟩ => ?_)
  cases c with
  | true => exact ⟨H1, I1, q1⟩
  | false => exact hb wh pins s1 σ H1 Q I1 q1
theorem pt_not (ha : PT X a tA) : PT X (.UnaryOp .Not a pos) (tNot tA) := by
  intro pins s σ H Q I h
  exact isTrue_not (ha pins s σ H (fun c H1 => Q (!c) H1) I h)
def tAndV (ta tb : TE) : TE := fun σ H Q => ta σ H fun x H1 => ∃ c, x = .bl c ∧ if c = true then tb σ H1 Q else Q (.bl false) H1
def tOrV (ta tb : TE) : TE := fun σ H Q => ta σ H fun x H1 => ∃ c, x = .bl c ∧ if c = true then Q (.bl true) H1 else tb σ H1 Q
def tNotV (ta : TE) : TE := fun σ H Q => ta σ H fun x H1 => ∃ c, x = .bl c ∧ Q (.bl (!c)) H1
theorem pe_one {op} {t : TE} (h : PE X a t) : PE X (.BoolOp op [a] pos) t := fun pins s σ H Q I hw => BoolOp_one (h pins s σ H Q I hw)
theorem pe_and (ha : PE X a ta) (hb : PE X (.BoolOp .And (b :: rest) pos) tb) : PE X (.BoolOp .And (a :: b :: rest) pos) (tAndV ta tb) := by
  intro pins s σ H Q I h
  refine BoolOp_and (thn (ha pins s σ H _ I h) fun v s1 ⟨x, H1, I1, r1, q1⟩ => ?_)
  obtain ⟨c, rfl, q1⟩ := q1
  cases r1
  refine wpAny_truthy_bool ?_
  cases c with
  | true => exact hb pins s1 σ H1 Q I1 q1
  | false => exact ⟨.bl false, H1, I1, rfl, q1⟩
theorem pe_or (ha : PE X a ta) (hb : PE X (.BoolOp .Or (b :: rest) pos) tb) : PE X (.BoolOp .Or (a :: b :: rest) pos) (tOrV ta tb) := by
  intro pins s σ H Q I h
  refine BoolOp_or (thn (ha pins s σ H _ I h) fun v s1 ⟨x, H1, I1, r1, q1⟩ => ?_)
  obtain ⟨c, rfl, q1⟩ := q1
  cases r1
  refine wpAny_truthy_bool ?_
  cases c with
  | false => exact hb pins s1 σ H1 Q I1 q1
  | true => exact ⟨.bl true, H1, I1, rfl, q1⟩
theorem pe_not (ha : PE X a ta) : PE X (.UnaryOp .Not a pos) (tNotV ta) := by
  intro pins s σ H Q I h
  refine UnaryOp_ (thn (ha pins s σ H _ I h) fun v s1 ⟨x, H1, I1, r1, q1⟩ => ?_)
  obtain ⟨c, rfl, q1⟩ := q1
  cases r1
  exact not_of (wpAny_truthy_bool ⟨.bl (!c), H1, I1, rfl, q1⟩)
def tIf (t : TT) (ta tb : TE) : TE := fun σ H Q => t σ H fun c H1 => if c = true then ta σ H1 Q else tb σ H1 Q
end
end L2
namespace L2
open PySem PySem.Spec PyProof.Rows
def SqL (K : PySem.W.Frag) (H : Hp) (a : Addr) (xs : List V) : Prop :=
  Rd H a (.lst xs) ∨
    ∃ (o : Obj) (its : Array Value) (n : Nat), K.lookup a = some o ∧ o.cls = .type "list" ∧ o.dict = none ∧ o.data = .seq its n ∧ its.size ≤ sizeLine ∧ Vals xs its.toList
def SqT (K : PySem.W.Frag) (H : Hp) (a : Addr) (xs : List V) : Prop :=
  Rd H a (.tup xs) ∨
    ∃ (o : Obj) (its : Array Value) (n : Nat), K.lookup a = some o ∧ o.cls = .type "tuple" ∧ o.data = .seq its n ∧ its.size ≤ sizeLine ∧ Vals xs its.toList
def absV : Value → Option V
  | .none => some .non
  | .bool b => some (.bl b)
  | .int i _ => some (.int i)
  | .str x _ => some (.str x)
  | .bytes b _ => some (.byt b)
  | .float b _ => some (.flt b)
  | .ref a => some (.ref a)
  | .type n => some (.ty n)
  | _ => none
theorem RelV.abs {x : V} {u : Value} (r : RelV x u) : absV u = some x := by
  cases x with
  | non => cases r; rfl
  | bl _ => cases r; rfl
  | int _ => obtain ⟨t, rfl⟩ := r; rfl
  | str _ => obtain ⟨t, rfl⟩ := r; rfl
  | byt _ => obtain ⟨t, rfl⟩ := r; rfl
  | flt _ => obtain ⟨t, rfl⟩ := r; rfl
  | ref _ => cases r; rfl
  | ty _ => cases r; rfl
theorem RelV.inj {x y : V} {u : Value} (r : RelV x u) (q : RelV y u) : x = y := Option.some.inj (r.abs.symm.trans q.abs)
theorem Vals.inj : ∀ {xs ys : List V} {us : List Value}, Vals xs us → Vals ys us → xs = ys
  | _, _, _, .nil, .nil => rfl
  | _, _, _, .cons r t, .cons r' t' => by rw [r.inj r', Vals.inj t t']
section
variable {X : Cx} {pins : List (Addr × Obj)} {σ : St} {H : Hp} {s : Shared} {a : Addr} {xs ys : List V}
theorem SqL.of {K : PySem.W.Frag} (h : H a = some (.lst xs)) : SqL K H a xs := .inl (.inl h)
theorem SqT.of {K : PySem.W.Frag} (h : H a = some (.tup xs)) : SqT K H a xs := .inl (.inl h)
theorem Inv.list (I : Inv X pins σ H s) (h : SqL X.K H a xs) : ∃ its : List Value, Vals xs its ∧ PlainL s.heap a its.toArray ∧ xs.length ≤ sizeLine := by
  rcases h with h | ⟨o, its, n, hk, hc, hd, hs, hz, r⟩
  · obtain ⟨z, its, n, r, e⟩ := h.ok I.hok
    exact ⟨its, r, ⟨_, n, e, rfl, rfl, rfl⟩, z⟩
  · refine ⟨its.toList, r, ⟨o, n, I.kIn a o hk, hc, hd, by simpa using hs⟩, ?_⟩
    have e := r.length
    simp only [Array.length_toList] at e
    omega
theorem Inv.tuple (I : Inv X pins σ H s) (h : SqT X.K H a xs) : ∃ its : List Value, Vals xs its ∧ IsTup s.heap a its.toArray ∧ xs.length ≤ sizeLine := by
  rcases h with h | ⟨o, its, n, hk, hc, hs, hz, r⟩
  · obtain ⟨z, its, r, p⟩ := h.ok I.hok
    exact ⟨its, r, p, z⟩
  · refine ⟨its.toList, r, ⟨o, I.kIn a o hk, hc, n, by simpa using hs⟩, ?_⟩
    have e := r.length
    simp only [Array.length_toList] at e
    omega
theorem Inv.list_inj (I : Inv X pins σ H s) (h : SqL X.K H a xs) (h' : SqL X.K H a ys) : xs = ys := by
  obtain ⟨its, r, ⟨o, n, e, _, _, d⟩, _⟩ := I.list h
  obtain ⟨its', r', ⟨o', n', e', _, _, d'⟩, _⟩ := I.list h'
  rw [e] at e'; cases e'
  rw [d] at d'
  injection d' with d1 _
  have : its = its' := by simpa using congrArg Array.toList d1
  subst this
  exact r.inj r'
theorem Inv.tuple_inj (I : Inv X pins σ H s) (h : SqT X.K H a xs) (h' : SqT X.K H a ys) : xs = ys := by
  obtain ⟨its, r, ⟨o, e, _, n, d⟩, _⟩ := I.tuple h
  obtain ⟨its', r', ⟨o', e', _, n', d'⟩, _⟩ := I.tuple h'
  rw [e] at e'; cases e'
  rw [d] at d'
  injection d' with d1 _
  have : its = its' := by simpa using congrArg Array.toList d1
  subst this
  exact r.inj r'
end
abbrev Cx.wish (X : Cx) (E : Value → Shared → Prop) : Cx := { X with xe := E }
abbrev Cx.nox (X : Cx) : Cx := X.wish fun _ _ => False
theorem Cx.Ok.wish {X : Cx} (ok : X.Ok) (E : Value → Shared → Prop) : (X.wish E).Ok :=
  ⟨ok.mod, ok.kind, ok.glob, ok.blt, ok.above, ok.inj, ok.has, ok.cab, ok.hd, ok.frames, ok.stk, ok.exf, ok.bs, ok.bsz, ok.noex, ok.exfs, ok.funs, ok.frf⟩
theorem Cx.Ok.unwish {X : Cx} {E : Value → Shared → Prop} (ok : (X.wish E).Ok) : X.Ok :=
  ⟨ok.mod, ok.kind, ok.glob, ok.blt, ok.above, ok.inj, ok.has, ok.cab, ok.hd, ok.frames, ok.stk, ok.exf, ok.bs, ok.bsz, ok.noex, ok.exfs, ok.funs, ok.frf⟩
section
variable {X : Cx} {pins : List (Addr × Obj)} {σ : St} {H : Hp} {s : Shared} {E : Value → Shared → Prop}
theorem Inv.wish (I : Inv X pins σ H s) (E : Value → Shared → Prop) : Inv (X.wish E) pins σ H s := ⟨I.ok.wish E, I.os, I.bare, I.base, I.loc, I.cell, I.free, I.freeC, I.pin, I.hok, I.len⟩
theorem Inv.unwish (I : Inv (X.wish E) pins σ H s) : Inv X pins σ H s := ⟨I.ok.unwish, I.os, I.bare, I.base, I.loc, I.cell, I.free, I.freeC, I.pin, I.hok, I.len⟩
theorem SP.unwish {D : Ends} {f : Flow} {s' : Shared} (h : SP (X.wish E) pins D f s') : SP X pins D f s' := by
  cases f with
  | next => obtain ⟨σ', H', I, q⟩ := h; exact ⟨σ', H', I.unwish, q⟩
  | brk => obtain ⟨σ', H', I, q⟩ := h; exact ⟨σ', H', I.unwish, q⟩
  | cont => obtain ⟨σ', H', I, q⟩ := h; exact ⟨σ', H', I.unwish, q⟩
  | ret u => obtain ⟨v, σ', H', I, r, q⟩ := h; exact ⟨v, σ', H', I.unwish, r, q⟩
theorem PSs.nox {st : List Stmt} {t : TS} (h : PSs X.nox st t) : PSs X st t := fun pins s σ H D I hw =>
  wpAny_mono (h pins s σ H D (I.wish _) hw) (fun _ _ q => q.unwish) fun _ _ z => False.elim z
end
section
variable {X : Cx} {st : Stmt} {rest : List Stmt} {t u : TS} {e : Expr} {te : TE} {pos : Pos}
def tNext : TS := fun D σ H => D.nx σ H
def tSeq (t u : TS) : TS := fun D σ H => t { D with nx := u D } σ H
theorem pss_nil : PSs X [] tNext := fun _ _ σ H _ I h => wpAny_execs_nil ⟨σ, H, I, h⟩
theorem pss_cons (h1 : PS X st t) (h2 : PSs X rest u) : PSs X (st :: rest) (tSeq t u) := by
  intro pins s σ H D I h
  refine wpAny_execs_cons (thn (h1 pins s σ H { D with nx := u D } I h) fun f s1 q => ?_)
  cases f with
  | next =>
    obtain ⟨σ', H', I', q⟩ := q
    exact h2 pins s1 σ' H' D I' q
  | ret v => exact q
  | brk => exact q
  | cont => exact q
theorem pss_one (h1 : PS X st t) : PSs X [st] t := by
  intro pins s σ H D I h
  refine wpAny_execs_cons (thn (h1 pins s σ H D I h) fun f s1 q => ?_)
  cases f with
  | next => exact wpAny_execs_nil q
  | ret v => exact q
  | brk => exact q
  | cont => exact q
theorem Inv.quiet {pins : List (Addr × Obj)} {σ : St} {H : Hp} {s : Shared} (I : Inv X pins σ H s) : interactive X.env = false := by simp [interactive, I.ok.kind]
def tDrop (te : TE) : TS := fun D σ H => te σ H fun _ H1 => D.nx σ H1
theorem ps_expr (he : PE X e te) (hs : swapsWith e none pos.line X.env = pure false := by rfl) : PS X (.Expr e pos) (tDrop te) := by
  intro pins s σ H D I h
  exact wpAny_Expr_any (thn (he pins s σ H _ I h) fun v s1 ⟨x, H1, I1, r1, q1⟩ => ⟨σ, H1, I1, q1⟩) I.quiet hs
def tRet (te : TE) : TS := fun D σ H => te σ H D.rt
theorem ps_ret (he : PE X e te) : PS X (.Return (some e) pos) (tRet te) := by
  intro pins s σ H D I h
  exact wpAny_Return_some (thn (he pins s σ H _ I h) fun v s1 ⟨x, H1, I1, r1, q1⟩ => ⟨x, σ, H1, I1, r1, q1⟩)
def tRetN : TS := fun D _ H => D.rt .non H
def tIfS (c : TT) (t u : TS) : TS := fun D σ H => c σ H fun b H1 => if b = true then t D σ H1 else u D σ H1
theorem ps_if {c : Expr} {a b : List Stmt} {tc : TT} (hc : PT X c tc) (ha : PSs X a t) (hb : PSs X b u) : PS X (.If c a b pos) (tIfS tc t u) := by
  intro pins s σ H D I h
  refine wpAny_If (thn (hc pins s σ H _ I h) fun d s1 ⟨H1, I1, q1⟩ => ?_)
  cases d with
  | true => exact ha pins s1 σ H1 D I1 q1
  | false => exact hb pins s1 σ H1 D I1 q1
end
abbrev TG := V → St → Hp → (St → Hp → Prop) → Prop
abbrev TGs := List V → St → Hp → (St → Hp → Prop) → Prop
def PG (X : Cx) (target : Expr) (t : TG) : Prop :=
  ∀ (pins : List (Addr × Obj)) (s : Shared) (σ : St) (H : Hp) (v : V) (u : Value) (Q : St → Hp → Prop), Inv X pins σ H s → RelV v u → t v σ H Q →
    wpAny (model X.prog X.w) X.A (assign target X.env u) (fun _ s' => ∃ σ' H', Inv X pins σ' H' s' ∧ Q σ' H') X.xe s
def PGs (X : Cx) (ts : List Expr) (t : TGs) : Prop :=
  ∀ (pins : List (Addr × Obj)) (s : Shared) (σ : St) (H : Hp) (vs : List V) (us : List Value) (Q : St → Hp → Prop), Inv X pins σ H s → Vals vs us → t vs σ H Q →
    wpAny (model X.prog X.w) X.A (assignInOrder ((assignEach ts X.env).map (·.2)) us) (fun _ s' => ∃ σ' H', Inv X pins σ' H' s' ∧ Q σ' H') X.xe s
abbrev TIp := V → V → Hp → VK → Prop
section
variable {X : Cx} {pos : Pos}
def gName (i : Nat) : TG := fun v σ H Q => Q (σ.set i (some v)) H
theorem pg_name {i : Nat} {x : Str} (hN : X.N.Nodup) (hi : X.N[i]? = some x) (hx : Loc X.env.scope x) (hf : X.fn x = true ∨ X.env.scope.names.lookup x = some .local := by first | exact .inl rfl | exact .inr rfl | assumption) : PG X (.Name x pos) (gName i) := by
  intro pins s σ H v u Q I r h
  exact wpAny_assign_Name (store_ok I hN hi hx r (fun s' I' => ⟨_, H, I', h⟩) hf)
def gNil : TGs := fun vs σ H Q => vs = [] ∧ Q σ H
def gCons (t : TG) (u : TGs) : TGs := fun vs σ H Q => ∃ v r, vs = v :: r ∧ t v σ H fun σ' H' => u r σ' H' Q
theorem pgs_nil : PGs X [] gNil := by
  intro pins s σ H vs us Q I r h
  obtain ⟨e, h⟩ := h
  subst e
  cases r
  exact assignInOrder_nil ⟨σ, H, I, h⟩
theorem pgs_cons {e : Expr} {es : List Expr} {t : TG} {u : TGs} (h1 : PG X e t) (h2 : PGs X es u)
    (hs : (assignEach (e :: es) X.env).map (·.2) = assign e X.env :: (assignEach es X.env).map (·.2) := by rfl) : PGs X (e :: es) (gCons t u) := by
  intro pins s σ H vs us Q I r h
  obtain ⟨v, vr, e1, h⟩ := h
  subst e1
  cases r with
  | cons r rr =>
    rw [hs]
    refine assignInOrder_cons (thn (h1 pins s σ H _ _ _ I r h) fun _ s1 ⟨σ1, H1, I1, q1⟩ => ?_)
    exact h2 pins s1 σ1 H1 _ _ Q I1 rr q1
def gTup (K : PySem.W.Frag) (n : Nat) (t : TGs) : TG := fun v σ H Q => ∃ a xs, v = .ref a ∧ SqT K H a xs ∧ xs.length = n ∧ t xs σ H Q
theorem pg_tup {es : List Expr} {k : Nat} {t : TGs} {n : Nat} (hc : X.calm = true) (h : PGs X es t)
    (hn : (assignEach es X.env).length = n := by rfl) (hst : (assignEach es X.env).findIdx? (·.1) = none := by rfl) : PG X (.Tuple es k pos) (gTup X.K n t) := by
  intro pins s σ H v u Q I r hw
  obtain ⟨a, xs, e1, hq, hl, hw⟩ := hw
  subst e1
  cases r
  obtain ⟨its, rv, ht, hz⟩ := I.tuple hq
  refine assign_Tuple_tuple (I.ok.hd hc) ht (by simp [hn, ← hl, rv.length]) hst fun h' hx => ?_
  have I1 : Inv X pins σ H { s with heap := h' } := I.kept (t' := s.toks) fun b o e => hx b o (Nat.ne_of_lt (Heap.lt_size e)) e
  exact h pins _ σ H xs _ Q I1 (by simpa using rv) hw
def tAsg (te : TE) (g : TG) : TS := fun D σ H => te σ H fun x H1 => g x σ H1 D.nx
theorem ps_set {i : Nat} {x : Str} {e : Expr} {te : TE} {pos' : Pos} (hN : X.N.Nodup) (hi : X.N[i]? = some x) (hx : Loc X.env.scope x) (he : PE X e te) (hs : swapsWith e (some (.Name x pos')) pos.line X.env = pure false := by rfl) (hf : X.fn x = true ∨ X.env.scope.names.lookup x = some .local := by first | exact .inl rfl | exact .inr rfl | assumption) :
    PS X (.Assign [.Name x pos'] e pos) (tAsg te (gName i)) := by
  intro pins s σ H D I h
  refine wpAny_Assign_Name (thn (he pins s σ H _ I h) fun v s1 ⟨y, H1, I1, r1, q1⟩ => ?_) hs
  exact store_ok I1 hN hi hx r1 (fun s2 I2 => ⟨_, H1, I2, q1⟩) hf
def ipI (f : Int → Int → Int) : TIp := fun x y H Q => ∃ i j, x = .int i ∧ y = .int j ∧ Q (.int (f i j)) H
end
section
variable {X : Cx} {pos : Pos}
end
structure It where
  go : Nat → Hp → Prop
  yld : Nat → Hp → V → Hp → Prop
  stop : Nat → Hp → Prop
def FpOk (X : Cx) (pins : List (Addr × Obj)) (H : Hp) (b : Addr) : Prop :=
  H b = none ∧ b ≠ X.env.locals ∧ b ∉ X.fs ∧ (b ∈ X.ex ∨ X.s₀.heap.objs.size ≤ b) ∧ (∀ x c, X.env.cells.lookup x = some c → c ≠ b) ∧ ∀ p ∈ X.pn ++ pins, p.1 ≠ b
theorem Inv.fpOk {X : Cx} {pins : List (Addr × Obj)} {σ : St} {H H' : Hp} {s : Shared} {b : Addr} (I : Inv X pins σ H s) (hb : s.heap.objs.size ≤ b) (hn : H' b = none) : FpOk X pins H' b := by
  refine ⟨hn, Nat.ne_of_gt (Nat.lt_of_lt_of_le I.lt hb), I.nofs hb, .inr (Nat.le_trans I.sz hb), fun x c e z => ?_, fun p hp z => ?_⟩
  · obtain ⟨v, q⟩ := I.cell x c e
    exact absurd (Nat.lt_of_lt_of_le q.lt (by rw [z]; exact hb)) (Nat.lt_irrefl _)
  · exact absurd (Nat.lt_of_lt_of_le (Heap.lt_size (I.pin p hp).1) (by rw [z]; exact hb)) (Nat.lt_irrefl _)
structure Turn (P : Program) (w : World) (K : PySem.W.Frag) (tg : Expr) (J : It) (fp : List Addr) (it : Addr) (tn : Nat → Heap → Prop) : Prop where
  mem : it ∈ fp
  obj : ∀ i h, tn i h → ∀ b ∈ fp, ∃ o, h.get? b = some o ∧ ∀ v, o.data ≠ .cell v
  keep : ∀ i h h', tn i h → (∀ b ∈ fp, ∀ o, h.get? b = some o → h'.get? b = some o) → tn i h'
  item : ∀ (X : Cx), X.prog = P → X.w = w → X.K = K → X.calm = true → ∀ (i : Nat) (pins : List (Addr × Obj)) (s : Shared) (σ : St) (H : Hp) (E : Value → Shared → Prop), Inv X pins σ H s → (∀ b ∈ fp, FpOk X pins H b) → tn i s.heap → J.go i H →
    wpAny (model P w) X.A (pyNext (.ref it)) (fun r s1 => ∃ u, r = some u ∧
      wpAny (model P w) X.A (letOwnedTupleGo tg (.ref it) u) (fun _ s2 => ∃ x H', Inv X pins σ H' s2 ∧ RelV x u ∧ J.yld i H x H' ∧ tn (i + 1) s2.heap ∧ ∀ b ∈ fp, H' b = none) E s1) E s
  done : ∀ (X : Cx), X.prog = P → X.w = w → X.K = K → X.calm = true → ∀ (i : Nat) (pins : List (Addr × Obj)) (s : Shared) (σ : St) (H : Hp) (E : Value → Shared → Prop), Inv X pins σ H s → (∀ b ∈ fp, FpOk X pins H b) → tn i s.heap → J.stop i H →
    wpAny (model P w) X.A (pyNext (.ref it)) (fun r s1 => r = none ∧ Inv X pins σ H s1) E s
  self : ∀ (A : Around) (i : Nat) (s : Shared) (Q : Value → Shared → Prop) (E : Value → Shared → Prop), tn i s.heap → Q (.ref it) s → wpAny (model P w) A (pyIter (.ref it)) Q E s
abbrev TI := St → Hp → (It → Hp → Prop) → Prop
def PIE (X : Cx) (pins : List (Addr × Obj)) (σ : St) (tg : Expr) (R : It → Hp → Prop) (itv : Value) (s2 : Shared) : Prop :=
  ∃ (it : Addr) (fp : List Addr) (tn : Nat → Heap → Prop) (J : It) (H' : Hp), itv = .ref it ∧ Inv X pins σ H' s2 ∧ Turn X.prog X.w X.K tg J fp it tn ∧ tn 0 s2.heap ∧ (∀ b ∈ fp, FpOk X pins H' b) ∧ R J H'
def PI (X : Cx) (tg iter : Expr) (wi : TI) : Prop :=
  ∀ (pins : List (Addr × Obj)) (s : Shared) (σ : St) (H : Hp) (R : It → Hp → Prop), Inv X pins σ H s → wi σ H R →
    wpAny (model X.prog X.w) X.A (eval iter X.env) (fun v s1 => wpAny (model X.prog X.w) X.A (pyIter v) (PIE X pins σ tg R) X.xe s1) X.xe s
theorem go_of {M : Model} {A : Around} {E : Value → Shared → Prop} {s : Shared} {tg : Expr} {it : Addr} {u : Value} {o : Obj} {n : String} {vs : Array Value} {Q : Unit → Shared → Prop} (ho : s.heap.get? it = some o) (hc : o.cls = .type n) (hd : o.data = .fields vs)
    (hn : ["enumerate", "zip", "dict_itemiterator", "dict_reverseitemiterator", "odict_iterator", "itertools.zip_longest", "itertools.pairwise"].contains n = false) (hQ : Q () s) : wpAny M A (letOwnedTupleGo tg (.ref it) u) Q E s := by
  unfold letOwnedTupleGo
  cases tg <;> first
    | exact wpAny_pure hQ
    | (cases u <;> first
        | exact wpAny_pure hQ
        | (refine wpAny_bind (wpAny_load ho ?_)
           rw [hc, hd]
           show wpAny M A (if (["enumerate", "zip", "dict_itemiterator", "dict_reverseitemiterator", "odict_iterator", "itertools.zip_longest", "itertools.pairwise"].contains n && vs[0]? == some (rawInt _)) = true then _ else _) Q E s
           rw [if_neg (by intro h; rw [hn, Bool.false_and] at h; cases h)]
           exact wpAny_pure hQ))
def Itl (K : PySem.W.Frag) (a : Addr) : It :=
  ⟨fun i H => ∃ xs x, SqL K H a xs ∧ xs[i]? = some x, fun i H x H' => H' = H ∧ ∀ xs, SqL K H a xs → xs[i]? = some x, fun i H => ∃ xs, SqL K H a xs ∧ xs.length ≤ i⟩
def Itt (K : PySem.W.Frag) (a : Addr) : It :=
  ⟨fun i H => ∃ xs x, SqT K H a xs ∧ xs[i]? = some x, fun i H x H' => H' = H ∧ ∀ xs, SqT K H a xs → xs[i]? = some x, fun i H => ∃ xs, SqT K H a xs ∧ xs.length ≤ i⟩
def Itr (lo : Int) (n : Nat) : It := ⟨fun i _ => i < n, fun i H x H' => H' = H ∧ x = .int (lo + i), fun i _ => n ≤ i⟩
theorem turn_list {P : Program} {w : World} {K : PySem.W.Frag} {tg : Expr} (a it : Addr) : Turn P w K tg (Itl K a) [it] it (fun i h => h.IsListIter it a i) where
  mem := by simp
  obj := fun i h st b hb => by
    have e : b = it := by simpa using hb
    subst e
    obtain ⟨o, e, c, d⟩ := st
    exact ⟨o, e, fun v z => by rw [d] at z; cases z⟩
  keep := fun i h h' st k => st.at fun o e => k it (by simp) o e
  item := by
    intro X hP hw hK hc i pins s σ H E I hf st hg
    subst hP hw hK
    obtain ⟨xs, x, hq, hx⟩ := hg
    obtain ⟨its, rv, p, hz⟩ := I.list hq
    obtain ⟨u, hu, ru⟩ := rv.get hx
    obtain ⟨f0, f1, f2, f3, f4, f5⟩ := hf it (by simp)
    refine wpAny_pyNext_list_item st p.isList (x := u) (by simpa using hu) fun h' st' sb => ?_
    have I1 : Inv X pins σ H { s with heap := h' } := I.turned (t' := s.toks) (fun b o hb e => (sb.2 b hb).trans e) f0 f1 f3 f4 f5
    obtain ⟨o, e, c, d⟩ := id st'
    exact ⟨u, rfl, go_of (s := { s with heap := h' }) e c d (by decide) ⟨x, H, I1, ru, ⟨rfl, fun ys hy => by rw [I.list_inj hy hq]; exact hx⟩, st', fun b hb => (hf b hb).1⟩⟩
  done := by
    intro X hP hw hK hc i pins s σ H E I hf st hg
    subst hP hw hK
    obtain ⟨xs, hq, hx⟩ := hg
    obtain ⟨its, rv, p, hz⟩ := I.list hq
    obtain ⟨f0, f1, f2, f3, f4, f5⟩ := hf it (by simp)
    have hl := rv.length
    exact wpAny_pyNext_list_end (I.ok.hd hc) st p.isList (by simp; omega) fun h' eb => ⟨rfl, I.turned (t' := s.toks) (fun b o hb e => eb b o hb e) f0 f1 f3 f4 f5⟩
  self := fun _ _ _ _ _ st h => wpAny_pyIter_listiter st h
theorem turn_tuple {P : Program} {w : World} {K : PySem.W.Frag} {tg : Expr} (a it : Addr) : Turn P w K tg (Itt K a) [it] it (fun i h => h.IsTupleIter it a i) where
  mem := by simp
  obj := fun i h st b hb => by
    have e : b = it := by simpa using hb
    subst e
    obtain ⟨o, e, c, d⟩ := st
    exact ⟨o, e, fun v z => by rw [d] at z; cases z⟩
  keep := fun i h h' st k => st.at fun o e => k it (by simp) o e
  item := by
    intro X hP hw hK hc i pins s σ H E I hf st hg
    subst hP hw hK
    obtain ⟨xs, x, hq, hx⟩ := hg
    obtain ⟨its, rv, p, hz⟩ := I.tuple hq
    obtain ⟨u, hu, ru⟩ := rv.get hx
    obtain ⟨f0, f1, f2, f3, f4, f5⟩ := hf it (by simp)
    refine wpAny_pyNext_tuple_item st (show s.heap.IsTuple a its.toArray from p) (x := u) (by simpa using hu) fun h' st' sb => ?_
    have I1 : Inv X pins σ H { s with heap := h' } := I.turned (t' := s.toks) (fun b o hb e => (sb.2 b hb).trans e) f0 f1 f3 f4 f5
    obtain ⟨o, e, c, d⟩ := id st'
    exact ⟨u, rfl, go_of (s := { s with heap := h' }) e c d (by decide) ⟨x, H, I1, ru, ⟨rfl, fun ys hy => by rw [I.tuple_inj hy hq]; exact hx⟩, st', fun b hb => (hf b hb).1⟩⟩
  done := by
    intro X hP hw hK hc i pins s σ H E I hf st hg
    subst hP hw hK
    obtain ⟨xs, hq, hx⟩ := hg
    obtain ⟨its, rv, p, hz⟩ := I.tuple hq
    obtain ⟨f0, f1, f2, f3, f4, f5⟩ := hf it (by simp)
    have hl := rv.length
    exact wpAny_pyNext_tuple_end (I.ok.hd hc) st (show s.heap.IsTuple a its.toArray from p) (by simp; omega) fun h' eb => ⟨rfl, I.turned (t' := s.toks) (fun b o hb e => eb b o hb e) f0 f1 f3 f4 f5⟩
  self := fun _ _ _ _ _ st h => wpAny_pyIter_tupleiter st h
theorem turn_range {P : Program} {w : World} {K : PySem.W.Frag} {tg : Expr} (it : Addr) (lo : Int) (n : Nat) : Turn P w K tg (Itr lo n) [it] it (fun i h => IsRangeIter h it (lo + (i : Nat) * 1) ((n : Int) - (i : Nat)) 1) where
  mem := by simp
  obj := fun i h st b hb => by
    have e : b = it := by simpa using hb
    subst e
    exact ⟨_, st, fun v z => by
      have z' : Data.fields _ = Data.cell v := z
      cases z'⟩
  keep := fun i h h' st k => k it (by simp) _ st
  item := by
    intro X hP hw hK hc i pins s σ H E I hf st hg
    subst hP hw hK
    obtain ⟨f0, f1, f2, f3, f4, f5⟩ := hf it (by simp)
    have W := Walks.range (prog := X.prog) (w := X.w) (I.ok.hd hc) it lo 1 n
    refine W.item i s _ _ hg st fun v h' tk hv st' kk => ?_
    obtain ⟨t, rfl⟩ := hv
    have I1 : Inv X pins σ H { s with heap := h', toks := tk } := I.turned (fun b o hb e => kk b o (by simpa using hb) e) f0 f1 f3 f4 f5
    refine ⟨_, rfl, go_of (s := { s with heap := h', toks := tk }) (n := "range_iterator") st' rfl rfl (by decide) ⟨.int (lo + i), H, I1, ⟨t, ?_⟩, ⟨rfl, rfl⟩, st', fun b hb => (hf b hb).1⟩⟩
    rw [Int.mul_one]
  done := by
    intro X hP hw hK hc i pins s σ H E I hf st hg
    subst hP hw hK
    obtain ⟨f0, f1, f2, f3, f4, f5⟩ := hf it (by simp)
    exact wpAny_pyNext_range_end (I.ok.hd hc) st (by have : n ≤ i := hg; omega) fun h' eb => ⟨rfl, I.turned (t' := s.toks) (fun b o hb e => eb b o hb e) f0 f1 f3 f4 f5⟩
  self := fun _ _ _ _ _ st h => wpAny_pyIter_rangeiter st h
end L2
namespace L2
open PySem PySem.Spec PyProof.Rows
section
variable {X : Cx} {tg : Expr}
def iList (K : PySem.W.Frag) (tl : TE) : TI := fun σ H R => tl σ H fun x H1 => ∃ a, x = .ref a ∧ (∃ xs, SqL K H1 a xs) ∧ R (Itl K a) H1
def iTup (K : PySem.W.Frag) (tl : TE) : TI := fun σ H R => tl σ H fun x H1 => ∃ a, x = .ref a ∧ (∃ xs, SqT K H1 a xs) ∧ R (Itt K a) H1
theorem pi_list {l : Expr} {tl : TE} (hl : PE X l tl) : PI X tg l (iList X.K tl) := by
  intro pins s σ H R I h
  refine thn (hl pins s σ H _ I h) fun v s1 ⟨x, H1, I1, r1, q1⟩ => ?_
  obtain ⟨a, e, ⟨xs, hq⟩, q⟩ := q1
  subst e
  cases r1
  obtain ⟨its, rv, p, hz⟩ := I1.list hq
  refine wpAny_pyIter_list p.isList ?_
  refine ⟨s1.heap.objs.size, [s1.heap.objs.size], _, _, H1, rfl, I1.kept (t' := s1.toks) fun b o e => Heap.get?_push_of_some _ e, turn_list a _, ⟨_, Heap.get?_push_size _ rfl, rfl, rfl⟩, fun b hb => ?_, q⟩
  have e : b = s1.heap.objs.size := by simpa using hb
  subst e
  exact I1.fpOk (Nat.le_refl _) (I1.hok.fresh (Nat.le_refl _))
theorem pi_tup {l : Expr} {tl : TE} (hl : PE X l tl) : PI X tg l (iTup X.K tl) := by
  intro pins s σ H R I h
  refine thn (hl pins s σ H _ I h) fun v s1 ⟨x, H1, I1, r1, q1⟩ => ?_
  obtain ⟨a, e, ⟨xs, hq⟩, q⟩ := q1
  subst e
  cases r1
  obtain ⟨its, rv, p, hz⟩ := I1.tuple hq
  refine wpAny_pyIter_tuple (show s1.heap.IsTuple a its.toArray from p) ?_
  refine ⟨s1.heap.objs.size, [s1.heap.objs.size], _, _, H1, rfl, I1.kept (t' := s1.toks) fun b o e => Heap.get?_push_of_some _ e, turn_tuple a _, ⟨_, Heap.get?_push_size _ rfl, rfl, rfl⟩, fun b hb => ?_, q⟩
  have e : b = s1.heap.objs.size := by simpa using hb
  subst e
  exact I1.fpOk (Nat.le_refl _) (I1.hok.fresh (Nat.le_refl _))
theorem range_it {pins : List (Addr × Obj)} {σ : St} {H : Hp} {s : Shared} {R : It → Hp → Prop} {E : Value → Shared → Prop} {lo hi : Int} {t u v : Tok} {tk : Nat} (I : Inv X pins σ H s) (h1 : -(2 ^ 62) ≤ lo) (h2 : lo < 2 ^ 62) (h3 : -(2 ^ 62) ≤ hi) (h4 : hi < 2 ^ 62)
    (q : R (Itr lo (hi - lo).toNat) H) : wpAny (model X.prog X.w) X.A (pyIter (.ref s.heap.objs.size)) (PIE X pins σ tg R) E { s with heap := s.heap.push { cls := .type "range", data := .fields #[.int lo t, .int hi u, .int 1 v] }, toks := tk } := by
  refine wpAny_pyIter_range (IsRange.new ..) (small_one h1 h2 h3 h4) ?_
  have I1 : Inv X pins σ H { s with heap := s.heap.push { cls := .type "range", data := .fields #[.int lo t, .int hi u, .int 1 v] }, toks := tk } := I.kept fun b o e => Heap.get?_push_of_some _ e
  refine ⟨(s.heap.push { cls := .type "range", data := .fields #[.int lo t, .int hi u, .int 1 v] }).objs.size, [(s.heap.push { cls := .type "range", data := .fields #[.int lo t, .int hi u, .int 1 v] }).objs.size], _, _, H, rfl,
    I1.kept (t' := tk) fun b o e => Heap.get?_push_of_some _ e, turn_range _ lo (hi - lo).toNat, ?_, fun b hb => ?_, q⟩
  · have e1 : lo + ((0 : Nat) : Int) * 1 = lo := by simp
    have e2 : (((hi - lo).toNat : Nat) : Int) - ((0 : Nat) : Int) = Builtin.Range.rangeSize lo hi 1 := by rw [rangeSize_one]; split <;> omega
    show IsRangeIter _ _ (lo + ((0 : Nat) : Int) * 1) ((((hi - lo).toNat : Nat) : Int) - ((0 : Nat) : Int)) 1
    rw [e1, e2]
    exact Heap.get?_push_size _ rfl
  · have e : b = (s.heap.push { cls := .type "range", data := .fields #[.int lo t, .int hi u, .int 1 v] }).objs.size := by simpa using hb
    subst e
    exact I1.fpOk (Nat.le_refl _) (I1.hok.fresh (Nat.le_refl _))
def iRng1 (ta : TA) : TI := fun σ H R => ta σ H fun vs H1 => ∃ j : Int, vs = [.int j] ∧ -(2 ^ 62) ≤ j ∧ j < 2 ^ 62 ∧ R (Itr 0 j.toNat) H1
theorem pi_range1 {a : Expr} {ta : TA} {p pos : Pos} (hg : Gl X "range") (hm : X.mg "range" = none) (ha : PA X [a] ta) (hs : starEach [a] X.env = [(false, eval a X.env)] := by rfl) : PI X tg (.Call (.Name "range" p) [a] [] pos) (iRng1 ta) := by
  intro pins s σ H R I h
  refine Call_ (ld_blt I hg hm boot_range (PyProof.Rows.callWith_type1 (thn (ha pos pins s σ H _ I h) fun us s1 ⟨vs, H1, I1, r1, q1⟩ => ?_) hs rfl))
  obtain ⟨j, e, q1, q2, q⟩ := q1
  subst e
  cases r1 with
  | cons r rr =>
    cases rr
    obtain ⟨t, rfl⟩ := r
    exact call_range_1 (range_it I1 (by omega) (by omega) q1 q2 (by simpa using q))
def tFor (wi : TI) (g : TG) (tb : TS) : TS := fun D σ H => wi σ H fun J H1 => ∃ W : Nat → Nat → St → Hp → Prop, (∃ m, W 0 m σ H1) ∧ ∀ i m σ H, W i m σ H →
  (J.stop i H ∧ D.nx σ H) ∨ (J.go i H ∧ ∃ N : St → Hp → Prop, (∀ σ' H', N σ' H' → ∃ m', m' < m ∧ W (i + 1) m' σ' H') ∧ ∀ x H', J.yld i H x H' → g x σ H' fun σ2 H2 => tb { D with nx := N, ct := N, bk := D.nx } σ2 H2)
def pinsAt (fp : List Addr) (h : Heap) : List (Addr × Obj) := fp.filterMap fun b => (h.get? b).map fun o => (b, o)
theorem mem_pinsAt {fp : List Addr} {h : Heap} {b : Addr} {o : Obj} (hb : b ∈ fp) (e : h.get? b = some o) : (b, o) ∈ pinsAt fp h := List.mem_filterMap.mpr ⟨b, hb, by rw [e]; rfl⟩
theorem of_pinsAt {fp : List Addr} {h : Heap} {p : Addr × Obj} (hp : p ∈ pinsAt fp h) : p.1 ∈ fp ∧ h.get? p.1 = some p.2 := by
  obtain ⟨b, hb, e⟩ := List.mem_filterMap.mp hp
  cases q : h.get? b with
  | none => rw [q] at e; cases e
  | some o =>
    rw [q] at e
    have e' : (b, o) = p := Option.some.inj e
    subst e'
    exact ⟨hb, q⟩
theorem Inv.pinned {pins : List (Addr × Obj)} {σ : St} {H : Hp} {s : Shared} {fp : List Addr} (I : Inv X pins σ H s) (hf : ∀ b ∈ fp, FpOk X pins H b) (ho : ∀ b ∈ fp, ∃ o, s.heap.get? b = some o ∧ ∀ v, o.data ≠ .cell v) : Inv X (pins ++ pinsAt fp s.heap) σ H s :=
  I.pins_of fun p hp => (List.mem_append.mp hp).elim (fun z => I.pin p (List.mem_append_right _ z)) fun z => by
    obtain ⟨hb, e⟩ := of_pinsAt z
    obtain ⟨f0, f1, f2, _⟩ := hf p.1 hb
    obtain ⟨o, e', d⟩ := ho p.1 hb
    rw [e] at e'; cases e'
    exact ⟨e, f0, f1, f2, d⟩
theorem Inv.unpinned {pins pl : List (Addr × Obj)} {σ : St} {H : Hp} {s : Shared} (I : Inv X (pins ++ pl) σ H s) : Inv X pins σ H s := I.pins_of fun p hp => I.pin p (List.mem_append_right _ (List.mem_append_left _ hp))
theorem ps_for {iter : Expr} {body : List Stmt} {wi : TI} {g : TG} {tb : TS} {pos : Pos} (hp : PassesOwn (model X.prog X.w) X.A X.env X.xe) (hc : X.calm = true) (hi : PI X tg iter wi) (hg : PG X tg g) (hb : PSs X body tb)
    (hs : ∀ x, foldedSetIterable iter X.env x = pure x := by intro _; rfl) : PS X (.For tg iter body [] pos) (tFor wi g tb) := by
  intro pins s σ H D I h
  refine wpAny_For (thn (hi pins s σ H _ I h) fun v s1 h1 => thn h1 fun itv s2 h2 => ?_) hs
  obtain ⟨it, fp, tn, J, H2, e, I2, T, st2, f2, W, ⟨m0, w0⟩, turn⟩ := h2
  subst e
  -- what stays true of the iterator's objects through the loop
  have stat : ∀ {H' : Hp}, (∀ b ∈ fp, H' b = none) → ∀ b ∈ fp, FpOk X pins H' b := fun hn b hb => ⟨hn b hb, (f2 b hb).2⟩
  refine codeAny_forLoop_any (fun n s' => ∃ i σ' H', Inv X pins σ' H' s' ∧ tn i s'.heap ∧ (∀ b ∈ fp, H' b = none) ∧ W i n σ' H') ?_ m0 ⟨0, σ, H2, I2, st2, fun b hb => (f2 b hb).1, w0⟩
  rintro n s3 ⟨i, σ3, H3, I3, st3, fr3, w3⟩
  rcases turn i n σ3 H3 w3 with ⟨stop, qn⟩ | ⟨go, N, hN, step⟩
  · refine wpAny_passesOwn hp (thn (T.done X rfl rfl rfl hc i pins s3 σ3 H3 X.xe I3 (stat fr3) st3 stop) fun r s4 ⟨hr, I4⟩ => ?_)
    subst hr
    exact wpAny_execs_nil ⟨σ3, H3, I4, qn⟩
  · refine wpAny_passesOwn hp (thn (T.item X rfl rfl rfl hc i pins s3 σ3 H3 X.xe I3 (stat fr3) st3 go) fun r s4 ⟨u, hr, h4⟩ => ?_)
    subst hr
    refine wpAny_passesOwn hp (thn h4 fun _ s5 ⟨x, H5, I5, r5, y5, st5, fr5⟩ => ?_)
    have I5' := I5.pinned (stat fr5) (T.obj _ _ st5)
    refine wpAny_passesOwn hp (thn (hg _ s5 σ3 H5 x u _ I5' r5 (step x H5 y5)) fun _ s6 ⟨σ6, H6, I6, q6⟩ => ?_)
    refine wpAny_passesOwn hp (thn (hb _ s6 σ6 H6 _ I6 q6) fun f s7 q7 => ?_)
    have again : ∀ {σ7 : St} {H7 : Hp}, Inv X (pins ++ pinsAt fp s5.heap) σ7 H7 s7 → N σ7 H7 → ∃ m, m < n ∧ ∃ i σ' H', Inv X pins σ' H' s7 ∧ tn i s7.heap ∧ (∀ b ∈ fp, H' b = none) ∧ W i m σ' H' := fun {σ7 H7} I7 n7 => by
      obtain ⟨m', hm, w7⟩ := hN σ7 H7 n7
      refine ⟨m', hm, i + 1, σ7, H7, I7.unpinned, T.keep _ _ _ st5 fun b hb o e => (I7.pin (b, o) (List.mem_append_right _ (List.mem_append_right _ (mem_pinsAt hb e)))).1, fun b hb => ?_, w7⟩
      obtain ⟨o, e, d⟩ := T.obj _ _ st5 b hb
      exact (I7.pin (b, o) (List.mem_append_right _ (List.mem_append_right _ (mem_pinsAt hb e)))).2.1
    cases f with
    | next => obtain ⟨σ7, H7, I7, n7⟩ := q7; exact again I7 n7
    | cont => obtain ⟨σ7, H7, I7, n7⟩ := q7; exact again I7 n7
    | brk => obtain ⟨σ7, H7, I7, q7⟩ := q7; exact ⟨σ7, H7, I7.unpinned, q7⟩
    | ret v => obtain ⟨x7, σ7, H7, I7, r7, q7⟩ := q7; exact ⟨x7, σ7, H7, I7.unpinned, r7, q7⟩
end
theorem for_list {K : PySem.W.Frag} {a : Addr} {xs : List V} {g : TG} {tb : TS} {D : Ends} {σ : St} {H : Hp} (Pv : Nat → St → Hp → Prop) (h0 : Pv 0 σ H) (hl : ∀ i σ H, i ≤ xs.length → Pv i σ H → SqL K H a xs)
    (hs : ∀ i x σ H, xs[i]? = some x → Pv i σ H → g x σ H fun σ2 H2 => tb { D with nx := Pv (i + 1), ct := Pv (i + 1), bk := D.nx } σ2 H2) (hd : ∀ σ H, Pv xs.length σ H → D.nx σ H) :
    ∃ W : Nat → Nat → St → Hp → Prop, (∃ m, W 0 m σ H) ∧ ∀ i m σ H, W i m σ H →
      ((Itl K a).stop i H ∧ D.nx σ H) ∨ ((Itl K a).go i H ∧ ∃ N : St → Hp → Prop, (∀ σ' H', N σ' H' → ∃ m', m' < m ∧ W (i + 1) m' σ' H') ∧ ∀ x H', (Itl K a).yld i H x H' → g x σ H' fun σ2 H2 => tb { D with nx := N, ct := N, bk := D.nx } σ2 H2) := by
  refine ⟨fun i m σ H => m = xs.length - i ∧ i ≤ xs.length ∧ Pv i σ H, ⟨xs.length, by simp, Nat.zero_le _, h0⟩, ?_⟩
  rintro i m σ H ⟨rfl, hi, p⟩
  have q := hl i σ H hi p
  by_cases hlt : i < xs.length
  · refine .inr ⟨⟨xs, xs[i], q, by simp [hlt]⟩, Pv (i + 1), fun σ' H' p' => ⟨xs.length - (i + 1), by omega, rfl, hlt, p'⟩, fun x H' y => ?_⟩
    obtain ⟨e, y⟩ := y
    subst e
    exact hs i x σ _ (y xs q) p
  · have e : i = xs.length := by omega
    subst e
    exact .inl ⟨⟨xs, q, Nat.le_refl _⟩, hd σ H p⟩
theorem for_range {lo : Int} {n : Nat} {g : TG} {tb : TS} {D : Ends} {σ : St} {H : Hp} (Pv : Nat → St → Hp → Prop) (h0 : Pv 0 σ H)
    (hs : ∀ i σ H, i < n → Pv i σ H → g (.int (lo + i)) σ H fun σ2 H2 => tb { D with nx := Pv (i + 1), ct := Pv (i + 1), bk := D.nx } σ2 H2) (hd : ∀ σ H, Pv n σ H → D.nx σ H) :
    ∃ W : Nat → Nat → St → Hp → Prop, (∃ m, W 0 m σ H) ∧ ∀ i m σ H, W i m σ H →
      ((Itr lo n).stop i H ∧ D.nx σ H) ∨ ((Itr lo n).go i H ∧ ∃ N : St → Hp → Prop, (∀ σ' H', N σ' H' → ∃ m', m' < m ∧ W (i + 1) m' σ' H') ∧ ∀ x H', (Itr lo n).yld i H x H' → g x σ H' fun σ2 H2 => tb { D with nx := N, ct := N, bk := D.nx } σ2 H2) := by
  refine ⟨fun i m σ H => m = n - i ∧ i ≤ n ∧ Pv i σ H, ⟨n, by simp, Nat.zero_le _, h0⟩, ?_⟩
  rintro i m σ H ⟨rfl, hi, p⟩
  by_cases hlt : i < n
  · refine .inr ⟨hlt, Pv (i + 1), fun σ' H' p' => ⟨n - (i + 1), by omega, rfl, hlt, p'⟩, fun x H' y => ?_⟩
    obtain ⟨e, y⟩ := y
    subst e y
    exact hs i σ _ hlt p
  · have e : i = n := by omega
    subst e
    exact .inl ⟨Nat.le_refl _, hd σ H p⟩
end L2
namespace L2
open PySem PySem.Spec PyProof.Rows
abbrev R2 := V → V → Hp → VK → Prop
def OpR (X : Cx) (f : Value → Value → Sem Value) (r : R2) : Prop :=
  ∀ (pins : List (Addr × Obj)) (s : Shared) (σ : St) (H : Hp) (x y : V) (v u : Value) (Q : VK), Inv X pins σ H s → RelV x v → RelV y u → r x y H Q →
    wpAny (model X.prog X.w) X.A (f v u) (EP X pins σ Q) X.xe s
def UnR (X : Cx) (f : Value → Sem Value) (r : V → Hp → VK → Prop) : Prop :=
  ∀ (pins : List (Addr × Obj)) (s : Shared) (σ : St) (H : Hp) (x : V) (v : Value) (Q : VK), Inv X pins σ H s → RelV x v → r x H Q →
    wpAny (model X.prog X.w) X.A (f v) (EP X pins σ Q) X.xe s
def CallR (X : Cx) (f : Value) (r : List V → Hp → VK → Prop) : Prop :=
  ∀ (pins : List (Addr × Obj)) (s : Shared) (σ : St) (H : Hp) (xs : List V) (us : List Value) (Q : VK), Inv X pins σ H s → Vals xs us → r xs H Q →
    wpAny (model X.prog X.w) X.A (call f us) (EP X pins σ Q) X.xe s
def TruR (X : Cx) (r : V → Hp → (Bool → Hp → Prop) → Prop) : Prop :=
  ∀ (pins : List (Addr × Obj)) (s : Shared) (σ : St) (H : Hp) (x : V) (v : Value) (Q : Bool → Hp → Prop), Inv X pins σ H s → RelV x v → r x H Q →
    wpAny (model X.prog X.w) X.A (truthy v) (TP X pins σ Q) X.xe s
def tOp (r : R2) (ta tb : TE) : TE := fun σ H Q => ta σ H fun x H1 => tb σ H1 fun y H2 => r x y H2 Q
def tUn (r : V → Hp → VK → Prop) (ta : TE) : TE := fun σ H Q => ta σ H fun x H1 => r x H1 Q
def rI (C : Int → Int → Prop) (g : Int → Int → V) : R2 := fun x y H Q => ∃ i j, x = .int i ∧ y = .int j ∧ C i j ∧ Q (g i j) H
def rI0 (g : Int → Int → V) : R2 := fun x y H Q => ∃ i j, x = .int i ∧ y = .int j ∧ Q (g i j) H
def rU (g : Int → V) : V → Hp → VK → Prop := fun x H Q => ∃ i, x = .int i ∧ Q (g i) H
section
variable {X : Cx} {a b c : Expr} {ta tb tc : TE} {pos : Pos}
theorem binT (ha : PE X a ta) (hb : PE X b tb) {pins : List (Addr × Obj)} {s : Shared} {σ : St} {H : Hp} {R : V → V → Hp → Prop} (I : Inv X pins σ H s)
    (h : ta σ H fun x H1 => tb σ H1 fun y H2 => R x y H2) {Q : Value → Shared → Prop} {f : Value → Value → Sem Value}
    (hf : ∀ v u s2 x y H2, Inv X pins σ H2 s2 → RelV x v → RelV y u → R x y H2 → wpAny (model X.prog X.w) X.A (f v u) Q X.xe s2) :
    wpAny (model X.prog X.w) X.A (eval a X.env) (fun v s₁ => wpAny (model X.prog X.w) X.A (eval b X.env) (fun u s₂ => wpAny (model X.prog X.w) X.A (f v u) Q X.xe s₂) X.xe s₁) X.xe s := by
  refine thn (ha pins s σ H _ I h) fun v s1 ⟨x, H1, I1, r1, q1⟩ => ?_
  refine thn (hb pins s1 σ H1 _ I1 q1) fun u s2 ⟨y, H2, I2, r2, q2⟩ => ?_
  exact hf v u s2 x y H2 I2 r1 r2 q2
theorem pe_op {op : Operator} {r : R2} (ho : OpR X (binaryOp op) r) (ha : PE X a ta) (hb : PE X b tb) : PE X (.BinOp a op b pos) (tOp r ta tb) := by
  intro pins s σ H Q I h
  exact wpAny_BinOp (binT ha hb I h fun v u s2 x y H2 I2 rx ry q => ho pins s2 σ H2 x y v u Q I2 rx ry q)
theorem pe_un {op : UnaryOp} {r : V → Hp → VK → Prop} (ho : UnR X (unaryOp op) r) (ha : PE X a ta) : PE X (.UnaryOp op a pos) (tUn r ta) := by
  intro pins s σ H Q I h
  exact UnaryOp_ (thn (ha pins s σ H _ I h) fun v s1 ⟨x, H1, I1, r1, q1⟩ => ho pins s1 σ H1 x v Q I1 r1 q1)
theorem opI {f : Value → Value → Sem Value} {C : Int → Int → Prop} {g : Int → Int → Int}
    (rule : ∀ (i j : Int) (t u : Tok) (s : Shared) (Q : Value → Shared → Prop) (E : Value → Shared → Prop), C i j → Q (.int (g i j) s.toks) { s with toks := s.toks + 1 } → wpAny (model X.prog X.w) X.A (f (.int i t) (.int j u)) Q E s) :
    OpR X f (rI C fun i j => .int (g i j)) := by
  intro pins s σ H x y v u Q I rx ry h
  obtain ⟨i, j, rfl, rfl, hc, q⟩ := h
  obtain ⟨t, rfl⟩ := rx
  obtain ⟨t', rfl⟩ := ry
  exact rule i j t t' s _ _ hc ⟨.int (g i j), H, I.tok _, ⟨_, rfl⟩, q⟩
theorem opI0 {f : Value → Value → Sem Value} {g : Int → Int → Int}
    (rule : ∀ (i j : Int) (t u : Tok) (s : Shared) (Q : Value → Shared → Prop) (E : Value → Shared → Prop), Q (.int (g i j) s.toks) { s with toks := s.toks + 1 } → wpAny (model X.prog X.w) X.A (f (.int i t) (.int j u)) Q E s) :
    OpR X f (rI0 fun i j => .int (g i j)) := by
  intro pins s σ H x y v u Q I rx ry h
  obtain ⟨i, j, rfl, rfl, q⟩ := h
  obtain ⟨t, rfl⟩ := rx
  obtain ⟨t', rfl⟩ := ry
  exact rule i j t t' s _ _ ⟨.int (g i j), H, I.tok _, ⟨_, rfl⟩, q⟩
theorem opB0 {f : Value → Value → Sem Value} {g : Int → Int → Bool}
    (rule : ∀ (i j : Int) (t u : Tok) (s : Shared) (Q : Value → Shared → Prop) (E : Value → Shared → Prop), Q (.bool (g i j)) s → wpAny (model X.prog X.w) X.A (f (.int i t) (.int j u)) Q E s) :
    OpR X f (rI0 fun i j => .bl (g i j)) := by
  intro pins s σ H x y v u Q I rx ry h
  obtain ⟨i, j, rfl, rfl, q⟩ := h
  obtain ⟨t, rfl⟩ := rx
  obtain ⟨t', rfl⟩ := ry
  exact rule i j t t' s _ _ ⟨.bl (g i j), H, I, rfl, q⟩
def CDiv (i j : Int) : Prop := 0 < j ∧ j < 1073741824
def CPow (i j : Int) : Prop := 0 ≤ j ∧ j ≤ 1000000 ∧ i.natAbs < 2 ^ 64
def CMul (i j : Int) : Prop := (-(2 ^ 64) < i ∧ i < 2 ^ 64) ∨ (-(2 ^ 64) < j ∧ j < 2 ^ 64)
theorem CMul.ok {i j : Int} (h : CMul i j) : IntMulOk i j := by
  rcases h with ⟨h1, h2⟩ | ⟨h1, h2⟩
  · exact .of_left (intBits_le_64 h1 h2)
  · exact .of_right (intBits_le_64 h1 h2)
theorem op_add : OpR X (binaryOp .Add) (rI0 fun i j => .int (i + j)) := opI0 fun _ _ _ _ _ _ _ q => add_int q
theorem op_sub : OpR X (binaryOp .Sub) (rI0 fun i j => .int (i - j)) := opI0 fun _ _ _ _ _ _ _ q => sub_int q
theorem op_mul : OpR X (binaryOp .Mult) (rI CMul fun i j => .int (i * j)) := opI fun _ _ _ _ _ _ _ hc q => mul_int q hc.ok
theorem op_fdiv : OpR X (binaryOp .FloorDiv) (rI CDiv fun i j => .int (i / j)) := opI fun i j _ _ _ _ _ hc q => by
  have h1 : (0 : Int) < j := hc.1
  have h2 : j < 1073741824 := hc.2
  exact floordiv_int (by omega) (by rw [Int.fdiv_eq_ediv_of_nonneg i (by omega)]; exact q) (.inl (PyProof.noPylong_small (by omega)))
theorem op_mod : OpR X (binaryOp .Mod) (rI (fun _ j => 0 < j) fun i j => .int (i % j)) := opI fun i j _ _ _ _ _ hc q => by
  have h1 : (0 : Int) < j := hc
  exact mod_int' (by omega) (by rw [Int.fmod_eq_emod_of_nonneg i (by omega)]; exact q)
theorem op_pow : OpR X (binaryOp .Pow) (rI CPow fun i j => .int (i ^ j.toNat)) := opI fun _ _ _ _ _ _ _ hc q => pow_int_small hc.1 hc.2.1 hc.2.2 q
theorem unI {f : Value → Sem Value} {g : Int → Int}
    (rule : ∀ (i : Int) (t : Tok) (s : Shared) (Q : Value → Shared → Prop) (E : Value → Shared → Prop), Q (.int (g i) s.toks) { s with toks := s.toks + 1 } → wpAny (model X.prog X.w) X.A (f (.int i t)) Q E s) :
    UnR X f (rU fun i => .int (g i)) := by
  intro pins s σ H x v Q I rx h
  obtain ⟨i, rfl, q⟩ := h
  obtain ⟨t, rfl⟩ := rx
  exact rule i t s _ _ ⟨.int (g i), H, I.tok _, ⟨_, rfl⟩, q⟩
theorem un_neg : UnR X (unaryOp .USub) (rU fun i => .int (-i)) := unI fun _ _ _ _ _ q => neg_int q
end
def scal : V → V → Bool
  | .non, .non => true | .non, .int _ => true | .int _, .non => true | .non, .bl _ => true | .bl _, .non => true | .non, .str _ => true | .str _, .non => true
  | .int _, .int _ => true | .bl _, .bl _ => true | .str _, .str _ => true | .byt _, .byt _ => true
  | .int _, .str _ => true | .str _, .int _ => true | .bl _, .str _ => true | .str _, .bl _ => true
  | _, _ => false
def rEq : R2 := fun x y H Q => scal x y = true ∧ Q (.bl (decide (x = y))) H
def rNe : R2 := fun x y H Q => scal x y = true ∧ Q (.bl (!decide (x = y))) H
theorem dec_int {i j : Int} : decide (V.int i = V.int j) = (i == j) := by
  rw [Bool.eq_iff_iff]
  simp
theorem dec_bl {i j : Bool} : decide (V.bl i = V.bl j) = (i == j) := by
  rw [Bool.eq_iff_iff]
  simp
theorem dec_str {i j : Str} : decide (V.str i = V.str j) = (i == j) := by
  rw [Bool.eq_iff_iff]
  simp
theorem dec_byt {i j : Array UInt8} : decide (V.byt i = V.byt j) = (i.toList == j.toList) := by
  rw [Bool.eq_iff_iff]
  cases i
  cases j
  simp
section
variable {X : Cx} {a b c : Expr} {ta tb tc : TE} {pos : Pos}
theorem fin_bl {pins : List (Addr × Obj)} {σ : St} {H : Hp} {s : Shared} {Q : VK} {k k' : Bool} (I : Inv X pins σ H s) (q : Q (.bl k) H) (e : k = k') : EP X pins σ Q (.bool k') s := by
  subst e
  exact ⟨.bl k, H, I, rfl, q⟩
theorem op_eq : OpR X (compareOp .Eq) rEq := by
  intro pins s σ H x y v u Q I rx ry h
  obtain ⟨hs, q⟩ := h
  cases x with
  | non =>
    cases rx
    cases y with
    | non => cases ry; exact PySem.EqNone.eq_none_none (fin_bl I q (by simp))
    | bl j => cases ry; exact PySem.EqNone.eq_none_bool (fin_bl I q (by simp))
    | int j => obtain ⟨t', rfl⟩ := ry; exact PySem.EqNone.eq_none_int (fin_bl I q (by simp))
    | str j => obtain ⟨t', rfl⟩ := ry; exact PySem.EqNone.eq_none_str (fin_bl I q (by simp))
    | _ => exact absurd (show false = true from hs) Bool.false_ne_true
  | bl i =>
    cases rx
    cases y with
    | non => cases ry; exact PySem.EqNone.eq_bool_none (fin_bl I q (by simp))
    | bl j => cases ry; exact eq_bool (fin_bl I q dec_bl)
    | str j => obtain ⟨t', rfl⟩ := ry; exact PySem.EqMixed.eq_bool_str (fin_bl I q (by simp))
    | _ => exact absurd (show false = true from hs) Bool.false_ne_true
  | int i =>
    obtain ⟨t, rfl⟩ := rx
    cases y with
    | non => cases ry; exact PySem.EqNone.eq_int_none (fin_bl I q (by simp))
    | int j => obtain ⟨t', rfl⟩ := ry; exact eq_int (fin_bl I q dec_int)
    | str j => obtain ⟨t', rfl⟩ := ry; exact PySem.EqMixed.eq_int_str (fin_bl I q (by simp))
    | _ => exact absurd (show false = true from hs) Bool.false_ne_true
  | str i =>
    obtain ⟨t, rfl⟩ := rx
    cases y with
    | non => cases ry; exact PySem.EqNone.eq_str_none (fin_bl I q (by simp))
    | bl j => cases ry; exact PySem.EqMixed.eq_str_bool (fin_bl I q (by simp))
    | int j => obtain ⟨t', rfl⟩ := ry; exact PySem.EqMixed.eq_str_int (fin_bl I q (by simp))
    | str j => obtain ⟨t', rfl⟩ := ry; exact eq_str (fin_bl I q dec_str)
    | _ => exact absurd (show false = true from hs) Bool.false_ne_true
  | byt i =>
    obtain ⟨t, rfl⟩ := rx
    cases y with
    | byt j => obtain ⟨t', rfl⟩ := ry; exact PySem.W.eq_bytes (fin_bl I q dec_byt)
    | _ => exact absurd (show false = true from hs) Bool.false_ne_true
  | _ => cases y <;> exact absurd (show false = true from hs) Bool.false_ne_true
theorem op_ne : OpR X (compareOp .NotEq) rNe := by
  intro pins s σ H x y v u Q I rx ry h
  obtain ⟨hs, q⟩ := h
  cases x with
  | non =>
    cases rx
    cases y with
    | non => cases ry; exact PySem.EqNone.ne_none_none (fin_bl I q (by simp))
    | bl j => cases ry; exact PySem.EqNone.ne_none_bool (fin_bl I q (by simp))
    | int j => obtain ⟨t', rfl⟩ := ry; exact PySem.EqNone.ne_none_int (fin_bl I q (by simp))
    | str j => obtain ⟨t', rfl⟩ := ry; exact PySem.EqNone.ne_none_str (fin_bl I q (by simp))
    | _ => exact absurd (show false = true from hs) Bool.false_ne_true
  | bl i =>
    cases rx
    cases y with
    | non => cases ry; exact PySem.EqNone.ne_bool_none (fin_bl I q (by simp))
    | bl j => cases ry; exact ne_bool (fin_bl I q (congrArg not dec_bl))
    | str j => obtain ⟨t', rfl⟩ := ry; exact PySem.EqMixed.ne_bool_str (fin_bl I q (by simp))
    | _ => exact absurd (show false = true from hs) Bool.false_ne_true
  | int i =>
    obtain ⟨t, rfl⟩ := rx
    cases y with
    | non => cases ry; exact PySem.EqNone.ne_int_none (fin_bl I q (by simp))
    | int j => obtain ⟨t', rfl⟩ := ry; exact ne_int (fin_bl I q (congrArg not dec_int))
    | str j => obtain ⟨t', rfl⟩ := ry; exact PySem.EqMixed.ne_int_str (fin_bl I q (by simp))
    | _ => exact absurd (show false = true from hs) Bool.false_ne_true
  | str i =>
    obtain ⟨t, rfl⟩ := rx
    cases y with
    | non => cases ry; exact PySem.EqNone.ne_str_none (fin_bl I q (by simp))
    | bl j => cases ry; exact PySem.EqMixed.ne_str_bool (fin_bl I q (by simp))
    | int j => obtain ⟨t', rfl⟩ := ry; exact PySem.EqMixed.ne_str_int (fin_bl I q (by simp))
    | str j => obtain ⟨t', rfl⟩ := ry; exact ne_str (fin_bl I q (congrArg not dec_str))
    | _ => exact absurd (show false = true from hs) Bool.false_ne_true
  | byt i =>
    obtain ⟨t, rfl⟩ := rx
    cases y with
    | byt j => obtain ⟨t', rfl⟩ := ry; exact PySem.W.ne_bytes (fin_bl I q (congrArg not dec_byt))
    | _ => exact absurd (show false = true from hs) Bool.false_ne_true
  | _ => cases y <;> exact absurd (show false = true from hs) Bool.false_ne_true
theorem op_lt : OpR X (compareOp .Lt) (rI0 fun i j => .bl (decide (i < j))) := opB0 fun _ _ _ _ _ _ _ q => lt_int q
theorem op_le : OpR X (compareOp .LtE) (rI0 fun i j => .bl (decide (i ≤ j))) := opB0 fun _ _ _ _ _ _ _ q => le_int q
theorem op_gt : OpR X (compareOp .Gt) (rI0 fun i j => .bl (decide (j < i))) := opB0 fun _ _ _ _ _ _ _ q => gt_int q
theorem op_ge : OpR X (compareOp .GtE) (rI0 fun i j => .bl (decide (j ≤ i))) := opB0 fun _ _ _ _ _ _ _ q => ge_int q
theorem op_isN : OpR X (compareOp .Is) (fun x y H Q => y = .non ∧ Q (.bl (decide (x = .non))) H) := by
  intro pins s σ H x y v u Q I rx ry h
  obtain ⟨rfl, q⟩ := h
  cases ry
  refine is_none_gen (fin_bl I q ?_)
  cases x <;> first
    | (cases rx; rfl)
    | (obtain ⟨t, rfl⟩ := rx; rfl)
theorem nomark (b : Expr) {op : CmpOp} (h : op ≠ .In := by decide) (h2 : op ≠ .NotIn := by decide) : behindInMarks op b = false := by
  have e1 : (op == CmpOp.In) = false := by cases op <;> first | rfl | exact absurd rfl h
  have e2 : (op == CmpOp.NotIn) = false := by cases op <;> first | rfl | exact absurd rfl h2
  cases b <;> simp [behindInMarks, e1, e2]
theorem pe_cmpR {op : CmpOp} {r : R2} (ho : OpR X (compareOp op) r) (ha : PE X a ta) (hb : PE X b tb) (hm : behindInMarks op b = false) : PE X (.Compare a [op] [b] pos) (tOp r ta tb) := by
  intro pins s σ H Q I h
  exact wpAny_Compare1 (binT ha hb I h fun v u s2 x y H2 I2 rx ry q => ho pins s2 σ H2 x y v u Q I2 rx ry q) hm
def tTest (t : TE) : TT := fun σ H Q => t σ H fun x H' => ∃ k, x = .bl k ∧ Q k H'
theorem pt_cmpR {op : CmpOp} {r : R2} (ho : OpR X (compareOp op) r) (ha : PE X a ta) (hb : PE X b tb) (hm : behindInMarks op b = false) : PT X (.Compare a [op] [b] pos) (tTest (tOp r ta tb)) := by
  intro pins s σ H Q I h
  refine wpAny_isTrue_Compare1 (thn (ha pins s σ H _ I h) fun v s1 ⟨x, H1, I1, r1, q1⟩ => thn (hb pins s1 σ H1 _ I1 q1) fun u s2 ⟨y, H2, I2, r2, q2⟩ =>
    thn (ho pins s2 σ H2 x y v u _ I2 r1 r2 q2) fun c s3 ⟨z, H3, I3, r3, k, e, q3⟩ => ?_) hm
  subst e
  cases r3
  exact wpAny_truthy_bool ⟨H3, I3, q3⟩
def tChain (r r' : R2) (ta tb tc : TE) : TE := fun σ H Q => ta σ H fun x H1 => tb σ H1 fun y H2 => r x y H2 fun z H3 => ∃ k, z = .bl k ∧
  (if k = true then tc σ H3 fun w' H4 => r' y w' H4 Q else Q (.bl false) H3)
theorem pt_chain {op op' : CmpOp} {r r' : R2} (ho : OpR X (compareOp op) r) (ho' : OpR X (compareOp op') r') (ha : PE X a ta) (hb : PE X b tb) (hc : PE X c tc)
    (hm : lastMarks [op, op'] [b, c] = false := by with_unfolding_all rfl) : PT X (.Compare a [op, op'] [b, c] pos) (tTest (tChain r r' ta tb tc)) := by
  intro pins s σ H Q I h
  refine isTrue_chain (thn (ha pins s σ H _ I h) fun v s1 ⟨x, H1, I1, r1, q1⟩ => test_link (thn (hb pins s1 σ H1 _ I1 q1) fun u s2 ⟨y, H2, I2, r2, q2⟩ =>
    thn (ho pins s2 σ H2 x y v u _ I2 r1 r2 q2) fun d s3 ⟨z, H3, I3, r3, k, e, q3⟩ => ?_)) hm
  subst e
  cases r3
  refine wpAny_truthy_bool ?_
  cases k with
  | false =>
    obtain ⟨k', e', q'⟩ := q3
    cases e'
    exact ite_ff ⟨H3, I3, q'⟩
  | true =>
    refine ite_tt (test_last (thn (hc pins s3 σ H3 _ I3 q3) fun w' s4 ⟨z', H4, I4, r4, q4⟩ => thn (ho' pins s4 σ H4 y z' u w' _ I4 r2 r4 q4) fun d' s5 ⟨z2, H5, I5, r5, k2, e2, q5⟩ => ?_))
    subst e2
    cases r5
    exact wpAny_truthy_bool ⟨H5, I5, q5⟩
def TruV (K : PySem.W.Frag) (x : V) (H : Hp) (k : Bool) : Prop :=
  match x with
  | .non => k = false
  | .bl b => k = b
  | .int i => k = (i != 0)
  | .str y => y.length ≤ sizeLine ∧ k = ((y.length : Int) != 0)
  | .byt y => y.size ≤ sizeLine ∧ k = ((y.size : Int) != 0)
  | .ref p => (∃ xs, SqL K H p xs ∧ k = !xs.isEmpty) ∨ (∃ xs, SqT K H p xs ∧ k = !xs.isEmpty) ∨ ∃ kvs, H p = some (.dK kvs) ∧ k = !kvs.isEmpty
  | _ => False
theorem isEmpty_kv {κ : Type} {kvs : List (κ × V)} {vs : List (κ × Value)} (r : KV kvs vs) : (!vs.isEmpty) = !kvs.isEmpty := by
  cases r <;> rfl
theorem isEmpty_of {xs : List V} {its : List Value} (r : Vals xs its) : (!its.toArray.isEmpty) = !xs.isEmpty := by
  cases r <;> simp
theorem line63 : (sizeLine : Nat) < 2 ^ 63 := by rw [sizeLine_eq]; decide
theorem tru_ok : TruR X (fun x H Q => ∃ k, TruV X.K x H k ∧ Q k H) := by
  intro pins s σ H x v Q I rx h
  obtain ⟨k, e, q⟩ := h
  have hl := line63
  have hs : sizeLine = 16777216 := sizeLine_eq
  cases x with
  | non =>
    cases rx
    have e' : k = false := e
    subst e'
    exact truthy_none ⟨H, I, q⟩
  | bl b =>
    cases rx
    have e' : k = b := e
    subst e'
    exact wpAny_truthy_bool ⟨H, I, q⟩
  | int i =>
    obtain ⟨t, rfl⟩ := rx
    have e' : k = (i != 0) := e
    subst e'
    exact PySem.P.truthy_int ⟨H, I, q⟩
  | str y =>
    obtain ⟨t, rfl⟩ := rx
    obtain ⟨hy, e'⟩ : y.length ≤ sizeLine ∧ k = ((y.length : Int) != 0) := e
    subst e'
    exact PySem.P.truthy_str (by omega) ⟨H, I.tok _, q⟩
  | byt y =>
    obtain ⟨t, rfl⟩ := rx
    obtain ⟨hy, e'⟩ : y.size ≤ sizeLine ∧ k = ((y.size : Int) != 0) := e
    subst e'
    exact PySem.W.truthy_bytes (by omega) ⟨H, I.tok _, q⟩
  | ref p =>
    cases rx
    have e' : (∃ xs, SqL X.K H p xs ∧ k = !xs.isEmpty) ∨ (∃ xs, SqT X.K H p xs ∧ k = !xs.isEmpty) ∨ ∃ kvs, H p = some (.dK kvs) ∧ k = !kvs.isEmpty := e
    rcases e' with ⟨xs, hx, e'⟩ | ⟨xs, hx, e'⟩ | ⟨kvs, hx, e'⟩
    · subst e'
      obtain ⟨its, r, pl, hz⟩ := I.list hx
      have hlen := r.length
      exact wpAny_truthy_list pl.isList (by simp only [List.size_toArray]; omega) ⟨H, I.tok _, by rw [isEmpty_of r]; exact q⟩
    · subst e'
      obtain ⟨its, r, pl, hz⟩ := I.tuple hx
      have hlen := r.length
      exact truthy_tuple pl (by simp only [List.size_toArray]; omega) ⟨H, I.tok _, by rw [isEmpty_of r]; exact q⟩
    · subst e'
      obtain ⟨hz, hS, vs, r, m⟩ : kvs.length ≤ sizeLine ∧ (p == sysModules) = false ∧ ∃ vs, KV kvs vs ∧ s.heap.DictOf (mixKind X.prog X.w) p vs := I.hok p _ hx
      have hlen : kvs.length = vs.length := Paired.length r
      exact wpAny_truthy_dict hS m (by omega) ⟨H, I.tok _, by rw [isEmpty_kv r]; exact q⟩
  | _ => exact (show False from e).elim
theorem pt_truth (ha : PE X a ta) (he : ∀ whole, isTrue a X.env whole = (do let v ← whole; standAt a.pos; holding [v] (truthy v))) :
    PT X a (fun σ H Q => ta σ H fun x H' => ∃ k, TruV X.K x H' k ∧ Q k H') := by
  intro pins s σ H Q I h
  exact isTrue_plain (thn (ha pins s σ H _ I h) fun v s1 ⟨x, H1, I1, r1, q1⟩ => tru_ok pins s1 σ H1 x v Q I1 r1 q1) (he _)
theorem op_add_str : OpR X (binaryOp .Add) (fun x y H Q => ∃ i j, x = .str i ∧ y = .str j ∧ i.length + j.length ≤ sizeLine ∧ Q (.str (i ++ j)) H) := by
  intro pins s σ H x y v u Q I rx ry h
  obtain ⟨i, j, rfl, rfl, hz, q⟩ := h
  obtain ⟨t, rfl⟩ := rx
  obtain ⟨t', rfl⟩ := ry
  exact add_str (fun t' tk => ⟨.str (i ++ j), H, I.tok _, ⟨_, rfl⟩, q⟩) hz
theorem vals1 {x : V} {us : List Value} (r : Vals [x] us) : ∃ u, us = [u] ∧ RelV x u := by
  cases r with
  | cons r1 r2 => cases r2; exact ⟨_, rfl, r1⟩
theorem call_int1 : CallR X (.type "int") (fun xs H Q => (∃ i, xs = [.int i] ∧ Q (.int i) H) ∨ ∃ k, xs = [.bl k] ∧ Q (.int (if k then 1 else 0)) H) := by
  intro pins s σ H xs us Q I r h
  rcases h with ⟨i, rfl, q⟩ | ⟨k, rfl, q⟩
  · obtain ⟨u, rfl, t, rfl⟩ := vals1 r
    exact call_int_int ⟨.int i, H, I, ⟨_, rfl⟩, q⟩
  · obtain ⟨u, rfl, r1⟩ := vals1 r
    cases r1
    exact call_int_bool ⟨.int (if k then 1 else 0), H, I.tok _, ⟨_, rfl⟩, q⟩
theorem call_str_int : CallR X (.type "str") (fun xs H Q => ∃ i, xs = [.int i] ∧ i.natAbs.log2 < 1920 ∧ Q (.str (toString i)) H) := by
  intro pins s σ H xs us Q I r h
  obtain ⟨i, rfl, hz, q⟩ := h
  obtain ⟨u, rfl, t, rfl⟩ := vals1 r
  exact PySem.P.str_of_int hz ⟨.str _, H, I.tok _, ⟨_, rfl⟩, q⟩
end
end L2
namespace L2
open PySem PySem.Spec PyProof.Rows
structure ObjM (h : Heap) (x dx C : Addr) (mA : Str → Option Value) : Prop where
  obj : h.get? x = some (PySem.W.instObj C dx)
  ns : h.Ns1 dx mA
  ne : dx ≠ x
theorem lookIn_ns {h : Heap} {dx : Addr} {mA : Str → Option Value} (n : h.Ns1 dx mA) : ∃ od, h.get? dx = some od ∧ ∀ name, PySem.W.lookIn name od = some (mA name) := by
  obtain ⟨o, es, ep, ho, hd, hk, _, hm⟩ := n
  refine ⟨o, ho, fun name => ?_⟩
  have e := hm name
  unfold nsFind findBy at e
  rw [← Array.find?_toList] at e
  unfold PySem.W.lookIn
  rw [hd]
  dsimp only
  split
  · rename_i y q
    rw [q] at e
    exact congrArg some e
  · rename_i q
    rw [q] at e
    have a : es.toList.any (·.refKey) = false := by
      rw [List.any_eq_false]
      intro y hy
      obtain ⟨z, t, hkey⟩ := hk y (Array.mem_toList_iff.mp hy)
      simp [DictEntry.refKey, hkey]
    have a' : ¬ es.toList.any (·.refKey) = true := by rw [a]; exact Bool.false_ne_true
    rw [if_neg a']
    exact congrArg some e
theorem ObjM.look {h : Heap} {x dx C : Addr} {mA : Str → Option Value} (I : ObjM h x dx C mA) : ∃ od, PySem.W.InstAt h x (PySem.W.instObj C dx) C (some od) ∧ ∀ name, PySem.W.lookIn name od = some (mA name) :=
  let ⟨od, ho, hl⟩ := lookIn_ns I.ns
  ⟨od, ⟨I.obj, rfl, rfl, ho⟩, hl⟩
section
variable {prog : Program} {w : World} {A : Around} {E : Value → Shared → Prop} {s : Shared} {K : PySem.W.Frag} {x dx C f : Addr} {mA : Str → Option Value} {name : Str} {v : Value}
theorem get_map {expr : Bool} {Q : Value → Shared → Prop} (X : K.In s.heap) (I : ObjM s.heap x dx C mA) (hg : PySem.W.plainGet K C name = true) (hh : PySem.W.hasDictIn K C = true)
    (ha : PySem.W.findIn K (.ref C) name = some none) (hv : mA name = some v) (hv' : PySem.W.handedIn v = true) (h : Q v { s with toks := s.toks + 1 }) :
    wpAny (model prog w) A (getAttr (.ref x) name expr) Q E s := by
  obtain ⟨od, J, hl⟩ := I.look
  exact PySem.W.get_value X J (PySem.W.plainGet_of hg).1 (PySem.W.findObj_own hh ha rfl (by rw [hl, hv])) hv' h
theorem get_meth {pl : Sem Bool} {Q : Value × List Value → Shared → Prop} (X : K.In s.heap) (I : ObjM s.heap x dx C mA) (hg : PySem.W.plainGet K C name = true)
    (hf : PySem.W.findIn K (.ref C) name = some (some (.ref f))) (ht : PySem.W.isFn K (.ref f) = true) (hv : mA name = none) (h : Q (.ref f, [.ref x]) s) :
    wpAny (model prog w) A (getMethod (.ref x) name pl) Q E s := by
  obtain ⟨od, J, hl⟩ := I.look
  exact PySem.W.method_fn X J (PySem.W.plainGet_of hg).1 (PySem.W.plainGet_of hg).2 hf (beq_iff_eq.mp ht) (by show (PySem.W.lookIn name od).map (·.isSome) = some false; rw [hl, hv]; rfl) h
theorem set_map {ns : List Str} {Q : Unit → Shared → Prop} (X : K.In s.heap) (I : ObjM s.heap x dx C mA)
    (hs : PySem.W.findIn K (.ref C) "__setattr__" = some (some (.builtin "object.__setattr__"))) (hp : PySem.W.plainOver K C = true) (ht : PySem.W.takerIn K C name = some none) (hh : PySem.W.hasDictIn K C = true)
    (hw : PySem.Within mA ns) (hsz : ns.length ≤ sizeLine)
    (h : ∀ h', ObjM h' x dx C (fun y => if y = name then some v else mA y) → Heap.SameBut dx s.heap h' → Q () { s with heap := h', toks := s.toks + 2 }) :
    wpAny (model prog w) A (setAttr (.ref x) name v) Q E s := by
  obtain ⟨od, J, hl⟩ := I.look
  refine PySem.W.set_plain X J hs (PySem.W.osa_open (s := { s with toks := s.toks + 1 }) (r := none) X J hp ht fun b => ?_)
  obtain ⟨cd, hc, hd'⟩ := PySem.W.any_some hh
  have hx : s.heap.get? x = some ⟨.ref C, some dx, .plain, #[]⟩ := I.obj
  refine wpAny_bind (wpAny_pure (wpAny_bind (wpAny_bind (wpAny_loadPart hx (wpAny_bind (PySem.W.Looks.here (s := { s with toks := s.toks + 1 }) (PySem.W.looks_clsIn X hc) ?_))))))
  rw [hd']
  refine wpAny_pure (a := some dx) (wpAny_bind (wpAny_pure (wpAny_bind ?_)))
  refine wpAny_nsSet1 (s := { s with toks := s.toks + 1 }) I.ns fun h' hn2 hs2 => ?_
  obtain ⟨oD, esD, epD, hoD, hdD, hcD⟩ := hn2.count (PySem.Within.cons name v hw)
  refine wpAny_bind (wpAny_lookBehind hoD (by rw [hdD]; exact pastItsLine_dict (Nat.le_trans hcD (by rw [List.length_cons]; omega))) ?_)
  exact wpAny_pure (h _ ⟨(hs2.2 _ (Ne.symm I.ne)).trans I.obj, hn2, I.ne⟩ hs2)
theorem make_map {R : Result → Shared → Prop} {vs : List Value} {kw : List (Str × Value)} (X : K.In s.heap) (hm : PySem.W.makesIn K C = true)
    (hi : PySem.W.findIn K (.ref C) "__init__" = some (some (.ref f))) (hf : PySem.W.typeIn K (.ref f) = some (.type "function"))
    (h : codeAny (model prog w) (A.under (.builtin "type.__call__" ⟨.ref C :: vs, kw⟩)) (.call (.ref f) ⟨.ref (s.heap.objs.size + 1) :: vs, kw⟩) (PySem.W.InitBack (s.heap.objs.size + 1) R)
      { s with heap := (s.heap.push PySem.W.emptyDict).push (PySem.W.instObj C s.heap.objs.size) }) :
    codeAny (model prog w) A (.call (.ref C) ⟨vs, kw⟩) R s := by
  obtain ⟨hh, g, d, t, os⟩ := s
  exact PySem.W.make_core (PySem.W.makes_of X hm) (PySem.W.looks_findIn X hi) (fun self => PySem.W.bind_fn X self hf) (.inl rfl) h
end
def putF (f : Str) (v : V) : List (Str × V) → List (Str × V)
  | [] => [(f, v)]
  | (g, x) :: r => if g = f then (g, v) :: r else (g, x) :: putF f v r
theorem lookup_putF (f g : Str) (v : V) : ∀ fs : List (Str × V), (putF f v fs).lookup g = if g = f then some v else fs.lookup g
  | [] => by
    show List.lookup g [(f, v)] = _
    by_cases h : g = f
    · have hb : (g == f) = true := beq_iff_eq.mpr h
      simp only [List.lookup, hb, if_pos h]
    · have hb : (g == f) = false := beq_eq_false_iff_ne.mpr h
      simp only [List.lookup, hb, if_neg h]
  | (k, x) :: r => by
    have ih := lookup_putF f g v r
    rw [show putF f v ((k, x) :: r) = (if k = f then (k, v) :: r else (k, x) :: putF f v r) from rfl]
    by_cases hk : k = f
    · rw [if_pos hk]
      by_cases h : g = k
      · have hb : (g == k) = true := beq_iff_eq.mpr h
        simp only [List.lookup, hb, if_pos (h.trans hk)]
      · have hb : (g == k) = false := beq_eq_false_iff_ne.mpr h
        simp only [List.lookup, hb, if_neg (fun e : g = f => h (e.trans hk.symm))]
    · rw [if_neg hk]
      by_cases h : g = k
      · have hb : (g == k) = true := beq_iff_eq.mpr h
        simp only [List.lookup, hb, if_neg (fun e : g = f => hk (h.symm.trans e))]
      · have hb : (g == k) = false := beq_eq_false_iff_ne.mpr h
        simp only [List.lookup, hb]
        exact ih
theorem keys_putF (f : Str) (v : V) : ∀ fs : List (Str × V), f ∈ (putF f v fs).map (·.1) ∧ ∀ g, g ∈ fs.map (·.1) → g ∈ (putF f v fs).map (·.1)
  | [] => ⟨by simp [putF], fun g h => by simp at h⟩
  | (k, x) :: r => by
    obtain ⟨i1, i2⟩ := keys_putF f v r
    rw [show putF f v ((k, x) :: r) = (if k = f then (k, v) :: r else (k, x) :: putF f v r) from rfl]
    by_cases hk : k = f
    · rw [if_pos hk]
      subst hk
      exact ⟨by simp, fun g h => by simpa using h⟩
    · rw [if_neg hk]
      refine ⟨?_, fun g h => ?_⟩
      · rw [List.map_cons]
        exact List.mem_cons_of_mem _ i1
      · rw [List.map_cons] at h ⊢
        rcases List.mem_cons.mp h with e | e
        · exact List.mem_cons.mpr (.inl e)
        · exact List.mem_cons_of_mem _ (i2 g e)
theorem length_putF (f : Str) (v : V) : ∀ fs : List (Str × V), (putF f v fs).length ≤ fs.length + 1
  | [] => by simp [putF]
  | (k, x) :: r => by
    have ih := length_putF f v r
    rw [show putF f v ((k, x) :: r) = (if k = f then (k, v) :: r else (k, x) :: putF f v r) from rfl]
    by_cases hk : k = f
    · rw [if_pos hk, List.length_cons, List.length_cons]; omega
    · rw [if_neg hk, List.length_cons, List.length_cons]; omega
theorem RelO.some_of {v : V} {o : Option Value} (r : RelO (some v) o) : ∃ u, o = some u ∧ RelV v u := by
  cases o with
  | none => exact (show False from r).elim
  | some u => exact ⟨u, rfl, r⟩
theorem RelO.none_of {o : Option Value} (r : RelO none o) : o = none := by
  cases o with
  | none => rfl
  | some u => exact (show False from r).elim
theorem handed_of {v : V} {u : Value} (r : RelV v u) : PySem.W.handedIn u = true := by
  cases v with
  | non => cases (show u = Value.none from r); rfl
  | bl b => cases (show u = Value.bool b from r); rfl
  | int i => obtain ⟨t, e⟩ := (show ∃ t, u = Value.int i t from r); cases e; rfl
  | str x => obtain ⟨t, e⟩ := (show ∃ t, u = Value.str x t from r); cases e; rfl
  | byt b => obtain ⟨t, e⟩ := (show ∃ t, u = Value.bytes b t from r); cases e; rfl
  | flt b => obtain ⟨t, e⟩ := (show ∃ t, u = Value.float b t from r); cases e; rfl
  | ref a => cases (show u = Value.ref a from r); rfl
  | ty n => cases (show u = Value.type n from r); rfl
section
variable {P : Program} {w : World} {H H' : Hp} {h h' : Heap} {a C dx : Addr} {fs fs' : List (Str × V)}
theorem ins_get (hok : HOk P w H h) (e : H a = some (.ins C dx fs)) : ∃ mA, ObjM h a dx C mA ∧ (∀ f, RelO (fs.lookup f) (mA f)) ∧ PySem.Within mA (fs.map (·.1)) ∧ fs.length ≤ 1000 ∧ H dx = some (.own a) := by
  obtain ⟨d, z, ne, ob, mA, n, r, q⟩ := (show ObjOk P w H h a (.ins C dx fs) from hok a _ e)
  exact ⟨mA, ⟨ob, n, ne⟩, r, q, z, d⟩
end
structure Cls (K : PySem.W.Frag) (C : Addr) : Prop where
  pg : PySem.W.plainGet K C Str.empty = true
  hd : PySem.W.hasDictIn K C = true
  po : PySem.W.plainOver K C = true
  sa : PySem.W.findIn K (.ref C) "__setattr__" = some (some (.builtin "object.__setattr__"))
theorem Cls.get {K : PySem.W.Frag} {C : Addr} (c : Cls K C) (f : Str) : PySem.W.plainGet K C f = true := c.pg
def NoAttr (K : PySem.W.Frag) (C : Addr) (f : Str) : Prop := PySem.W.findIn K (.ref C) f = some none
theorem NoAttr.taker {K : PySem.W.Frag} {C : Addr} {f : Str} (n : NoAttr K C f) : PySem.W.takerIn K C f = some none := by
  unfold PySem.W.takerIn
  rw [show PySem.W.findIn K (.ref C) f = some none from n]
  rfl
structure Meth (K : PySem.W.Frag) (C : Addr) (m : Str) (f : Addr) : Prop where
  at_ : PySem.W.findIn K (.ref C) m = some (some (.ref f))
  fn : PySem.W.isFn K (.ref f) = true
  kp : PySem.W.keepIn K (.ref f) = true
section
variable {X : Cx} {pins : List (Addr × Obj)} {σ : St} {H : Hp} {s : Shared} {a C dx : Addr} {fs : List (Str × V)} {f : Str} {v : V} {A : Around} {E : Value → Shared → Prop}
theorem getattr_ok {b : Bool} {Q : Value → Shared → Prop} (I : Inv X pins σ H s) (e : H a = some (.ins C dx fs)) (c : Cls X.K C) (n : NoAttr X.K C f) (l : fs.lookup f = some v)
    (h : ∀ u s', Inv X pins σ H s' → RelV v u → Q u s') : wpAny (model X.prog X.w) A (getAttr (.ref a) f b) Q E s := by
  obtain ⟨mA, O, r, _, _, _⟩ := ins_get I.hok e
  obtain ⟨u, hu, ru⟩ := RelO.some_of (v := v) (o := mA f) (by rw [← l]; exact r f)
  exact get_map I.kIn O (c.get f) c.hd n hu (handed_of ru) (h u _ (I.tok _) ru)
theorem getmeth_ok {m : Str} {g : Addr} {pl : Sem Bool} {Q : Value × List Value → Shared → Prop} (I : Inv X pins σ H s) (e : H a = some (.ins C dx fs)) (c : Cls X.K C) (k : Meth X.K C m g) (l : fs.lookup m = none)
    (h : Q (.ref g, [.ref a]) s) : wpAny (model X.prog X.w) A (getMethod (.ref a) m pl) Q E s := by
  obtain ⟨mA, O, r, _, _, _⟩ := ins_get I.hok e
  have hn : mA m = none := RelO.none_of (by rw [← l]; exact r m)
  exact get_meth I.kIn O (c.get m) k.at_ k.fn hn h
theorem setattr_ok {y : V} {u : Value} {Q : Unit → Shared → Prop} (I : Inv X pins σ H s) (e : H a = some (.ins C dx fs)) (c : Cls X.K C) (n : NoAttr X.K C f) (hl : fs.length < 1000) (ry : RelV y u)
    (h : ∀ s', Inv X pins σ (upd H a (.ins C dx (putF f y fs))) s' → Q () s') : wpAny (model X.prog X.w) A (setAttr (.ref a) f u) Q E s := by
  obtain ⟨mA, O, r, wi, _, ho⟩ := ins_get I.hok e
  have hz : (fs.map (·.1)).length ≤ sizeLine := by rw [List.length_map, sizeLine_eq]; omega
  refine set_map I.kIn O c.sa c.po n.taker c.hd wi hz fun h' O' sb => h _ ?_
  have hd : ∃ o, h'.get? dx = some o := let ⟨o, _, _, e', _⟩ := O'.ns; ⟨o, e'⟩
  refine I.write (x := a) (e := dx) (by rw [e]; exact True.intro) (.inr ho) (fun b q hb z => (sb.2 b hb).trans z) hd ?_
  refine ⟨by rw [upd_ne O.ne]; exact ho, ?_, O.ne, O'.obj, _, O'.ns, fun g => ?_, fun g hg => ?_⟩
  · have := length_putF f y fs; omega
  · show RelO ((putF f y fs).lookup g) (if g = f then some u else mA g)
    rw [lookup_putF]
    by_cases q : g = f
    · rw [if_pos q, if_pos q]; exact ry
    · rw [if_neg q, if_neg q]; exact r g
  · by_cases q : g = f
    · rw [q]; exact (keys_putF f y fs).1
    · refine (keys_putF f y fs).2 g (wi g fun z => hg ?_)
      show (if g = f then some u else mA g) = none
      rw [if_neg q]; exact z
theorem Inv.made (I : Inv X pins σ H s) : Inv X pins σ (upd (upd H s.heap.objs.size (.own (s.heap.objs.size + 1))) (s.heap.objs.size + 1) (.ins C s.heap.objs.size []))
    { s with heap := (s.heap.push PySem.W.emptyDict).push (PySem.W.instObj C s.heap.objs.size) } := by
  have e1 : (s.heap.push PySem.W.emptyDict).get? s.heap.objs.size = some PySem.W.emptyDict := Heap.get?_push_size s.heap rfl
  have e2 : ((s.heap.push PySem.W.emptyDict).push (PySem.W.instObj C s.heap.objs.size)).get? (s.heap.objs.size + 1) = some (PySem.W.instObj C s.heap.objs.size) := by
    have := Heap.get?_push_size (s.heap.push PySem.W.emptyDict) (o := PySem.W.instObj C s.heap.objs.size) rfl
    rwa [Heap.size_push] at this
  have e3 : (s.heap.push PySem.W.emptyDict).Ns s.heap.objs.size (fun _ => none) := ⟨PySem.W.emptyDict, #[], _, e1, rfl, (fun e he => absurd he (by simp)), fun _ => rfl⟩
  have I1 := I.laid (a := s.heap.objs.size) (o := .own (s.heap.objs.size + 1)) (h' := s.heap.push PySem.W.emptyDict) (t' := s.toks) (fun b u q => Heap.get?_push_of_some _ q) (Nat.le_refl _) ⟨_, e1⟩
  refine I1.laid (a := s.heap.objs.size + 1) (o := .ins C s.heap.objs.size []) (t' := s.toks) (fun b u q => Heap.get?_push_of_some _ q) (Nat.le_of_eq (Heap.size_push _ _)) ?_
  have ne : s.heap.objs.size ≠ s.heap.objs.size + 1 := Nat.ne_of_lt (Nat.lt_succ_self _)
  refine ⟨by rw [upd_ne ne, upd_same], Nat.zero_le _, ne, e2, fun _ => none, (Heap.Ns1.of_empty e3).at fun o q => Heap.get?_push_of_some _ q, fun _ => True.intro, fun y hy => absurd rfl hy⟩
theorem attr_of {prog : Program} {w : World} {env : Env} {e : Expr} {f : Str} {pos : Pos} {s : Shared} {Q : Value → Shared → Prop} (hb : attributeBase e f env (eval e env) = eval e env)
    (h : wpAny (model prog w) A (eval e env) (fun o s₁ => wpAny (model prog w) A (getAttr o f true) Q E s₁) E s) : wpAny (model prog w) A (eval (.Attribute e f pos) env) Q E s :=
  Attribute_any_ h (by rw [arm_eval_Attribute, hb])
end
def tFld (K : PySem.W.Frag) (ta : TE) (f : Str) : TE := fun σ H Q => ta σ H fun x H1 => ∃ a C dx fs v, x = .ref a ∧ H1 a = some (.ins C dx fs) ∧ Cls K C ∧ NoAttr K C f ∧ fs.lookup f = some v ∧ Q v H1
def sFld (K : PySem.W.Frag) (ta tv : TE) (f : Str) : TS := fun D σ H => tv σ H fun y H1 => ta σ H1 fun x H2 => ∃ a C dx fs, x = .ref a ∧ H2 a = some (.ins C dx fs) ∧ Cls K C ∧ NoAttr K C f ∧ fs.length < 1000 ∧
  D.nx σ (upd H2 a (.ins C dx (putF f y fs)))
section
variable {X : Cx} {o e value : Expr} {f : Str} {pos pos' tpos : Pos} {ta tv : TE}
theorem pe_fld (he : PE X e ta) (hb : attributeBase e f X.env (eval e X.env) = eval e X.env) : PE X (.Attribute e f pos) (tFld X.K ta f) := by
  intro pins s σ H Q I h
  refine attr_of hb (thn (he pins s σ H _ I h) fun u s1 ⟨x, H1, I1, rx, a, C, dx, fs, v, ex, ea, c, n, l, q⟩ => ?_)
  subst ex
  obtain rfl : u = Value.ref a := rx
  exact getattr_ok I1 ea c n l fun u' s2 I2 ru => ⟨v, H1, I2, ru, q⟩
theorem ps_fld (ha : PE X o ta) (hv : PE X value tv) (hs : swapsWith value (some (.Attribute o f pos')) pos.line X.env = pure false) : PS X (.Assign [.Attribute o f pos'] value pos) (sFld X.K ta tv f) := by
  intro pins s σ H D I h
  refine plainObj_wpAny_Assign_Attribute (thn (hv pins s σ H _ I h) fun u s1 ⟨y, H1, I1, ry, q⟩ => thn (ha pins s1 σ H1 _ I1 q) fun ov s2 ⟨x, H2, I2, rx, a, C, dx, fs, ex, ea, c, n, l, q2⟩ => ?_) hs
  subst ex
  obtain rfl : ov = Value.ref a := rx
  exact setattr_ok I2 ea c n l ry fun s3 I3 => ⟨σ, _, I3, q2⟩
theorem methcall_of {pl : Sem Bool} {m : Str} {apos : Pos} {args : List Expr} {pins : List (Addr × Obj)} {s : Shared} {σ : St} {H : Hp} {Q : Value → Shared → Prop} {te : TE} (he : PE X e te) (I : Inv X pins σ H s)
    (h : te σ H fun x H1 => ∃ a C dx fs g, x = .ref a ∧ H1 a = some (.ins C dx fs) ∧ Cls X.K C ∧ Meth X.K C m g ∧ fs.lookup m = none ∧
      ∀ s1, Inv X pins σ H1 s1 → wpAny (model X.prog X.w) X.A (callWith pos (.ref g) [.ref a] (backTo pos (starEach args X.env)) (backToKw pos (keywordEach [] X.env))) Q X.xe s1)
    (ht : eval (.Call (.Attribute e m apos) args [] pos) X.env = (do
      let ov ← eval e X.env
      standAt apos.atName
      let (f, first) ← holding [ov] (getMethod ov m pl)
      callWith pos f first (backTo pos (starEach args X.env)) (backToKw pos (keywordEach [] X.env)))) :
    wpAny (model X.prog X.w) X.A (eval (.Call (.Attribute e m apos) args [] pos) X.env) Q X.xe s := by
  refine PySem.W.methodCall_KW (pl := pl) (thn (he pins s σ H _ I h) fun u s1 ⟨x, H1, I1, rx, a, C, dx, fs, g, ex, ea, c, k, l, q⟩ => ?_) ht
  subst ex
  obtain rfl : u = Value.ref a := rx
  exact getmeth_ok I1 ea c k l (q s1 I1)
end
section
variable {X : Cx} {pins : List (Addr × Obj)} {σ : St} {H : Hp} {s : Shared} {A : Around} {E : Value → Shared → Prop} {Q : Value → Shared → Prop} {c : Value} {b : Bool}
inductive TyOf (K : PySem.W.Frag) (H : Hp) : V → Value → Prop where
  | non : TyOf K H .non (.type "NoneType")
  | bl (x : Bool) : TyOf K H (.bl x) (.type "bool")
  | int (i : Int) : TyOf K H (.int i) (.type "int")
  | str (x : Str) : TyOf K H (.str x) (.type "str")
  | flt (x : UInt64) : TyOf K H (.flt x) (.type "float")
  | lst {a : Addr} {xs : List V} (e : H a = some (.lst xs)) : TyOf K H (.ref a) (.type "list")
  | frz {a : Addr} {o : Obj} {xs : List V} (e : H a = some (.frz o (.lst xs))) : TyOf K H (.ref a) (.type "list")
  | tup {a : Addr} {xs : List V} (e : H a = some (.tup xs)) : TyOf K H (.ref a) (.type "tuple")
  | dK {a : Addr} {kvs : List (Key × V)} (e : H a = some (.dK kvs)) : TyOf K H (.ref a) (.type "dict")
  | dT {a : Addr} {kvs : List (List Key × V)} (e : H a = some (.dT kvs)) : TyOf K H (.ref a) (.type "dict")
  | ins {a C dx : Addr} {fs : List (Str × V)} (e : H a = some (.ins C dx fs)) (cl : Cls K C) (ha : PySem.W.findIn K (.ref C) "__class__" = some (some (.builtin "object.__class__")))
      (hn : PySem.W.specialIn K (.builtin "object.__class__") "__get__" = some (some (.builtin "getset_descriptor.__get__"))) (htk : PySem.W.takesIn K (.builtin "object.__class__") = some true)
      (hm : PySem.W.mroIn K C (.type "object") = some true) : TyOf K H (.ref a) (.ref C)
theorem isinst_ok {x : V} {u t : Value} (I : Inv X pins σ H s) (rx : RelV x u) (ty : TyOf X.K H x t) (e : PySem.W.kitOne X.K t c = some b) (h : ∀ tk, Q (.bool b) { s with toks := tk }) :
    wpAny (model X.prog X.w) A (call (.builtin "isinstance") [u, c]) Q E s := by
  cases ty with
  | non => cases (show u = Value.none from rx); exact PySem.W.kia_one PySem.W.kitx_none I.kIn True.intro e (fun z => nomatch z) h
  | bl y => cases (show u = Value.bool y from rx); exact PySem.W.kia_one PySem.W.kitx_bool I.kIn True.intro e (fun z => nomatch z) h
  | int i => obtain ⟨t, q⟩ := (show ∃ t, u = Value.int i t from rx); cases q; exact PySem.W.kia_one PySem.W.kitx_int I.kIn True.intro e (fun z => nomatch z) h
  | str y => obtain ⟨t, q⟩ := (show ∃ t, u = Value.str y t from rx); cases q; exact PySem.W.kia_one PySem.W.kitx_str I.kIn True.intro e (fun z => nomatch z) h
  | flt y => obtain ⟨t, q⟩ := (show ∃ t, u = Value.float y t from rx); cases q; exact PySem.W.kia_one PySem.W.kitx_float I.kIn True.intro e (fun z => nomatch z) h
  | @lst a xs ea =>
    cases (show u = Value.ref a from rx)
    obtain ⟨_, _, n, _, h1⟩ := (show ObjOk X.prog X.w H s.heap a (.lst xs) from I.hok a _ ea)
    exact PySem.W.kia_one PySem.W.kitx_list I.kIn ⟨_, h1, rfl⟩ e (fun z => nomatch z) h
  | @frz a ob xs ea =>
    cases (show u = Value.ref a from rx)
    obtain ⟨_, _, _, n, _, h1⟩ := (show ObjOk X.prog X.w H s.heap a (.frz ob (.lst xs)) from I.hok a _ ea)
    exact PySem.W.kia_one PySem.W.kitx_list I.kIn ⟨_, h1, rfl⟩ e (fun z => nomatch z) h
  | @tup a xs ea =>
    cases (show u = Value.ref a from rx)
    obtain ⟨_, _, _, p⟩ := (show ObjOk X.prog X.w H s.heap a (.tup xs) from I.hok a _ ea)
    obtain ⟨o, h1, h2, _⟩ := p
    exact PySem.W.kia_one PySem.W.kitx_tuple I.kIn ⟨o, h1, h2⟩ e (fun z => nomatch z) h
  | @dK a kvs ea =>
    cases (show u = Value.ref a from rx)
    obtain ⟨_, _, vs, _, p⟩ := (show ObjOk X.prog X.w H s.heap a (.dK kvs) from I.hok a _ ea)
    obtain ⟨o, es, ep, h1, h2, _⟩ := p
    exact PySem.W.kia_one PySem.W.kitx_dict I.kIn ⟨o, h1, h2.1⟩ e (fun z => nomatch z) h
  | @dT a kvs ea =>
    cases (show u = Value.ref a from rx)
    obtain ⟨_, _, xs, _, o, es, ep, h1, h2, _⟩ := (show ObjOk X.prog X.w H s.heap a (.dT kvs) from I.hok a _ ea)
    exact PySem.W.kia_one PySem.W.kitx_dict I.kIn ⟨o, h1, h2.1⟩ e (fun z => nomatch z) h
  | @ins a C dx fs ea cl ha hn htk hm =>
    cases (show u = Value.ref a from rx)
    obtain ⟨mA, O, _⟩ := ins_get I.hok ea
    obtain ⟨od, J, _⟩ := O.look
    exact PySem.W.kia_one (PySem.W.kitx_own (cl.get _) cl.hd ha hn htk hm) I.kIn J e (fun z => nomatch z) h
end
end L2
namespace L2
open PySem PySem.Spec PyProof.Rows
structure Room (k : Nat) (A : Around) : Prop where
  hd : A.handled = none
  dp : A.depth + 3 * k + 5 < recursionLimit
  un : A.units + 16 * k + 200 < cLine
theorem Room.mono {j k : Nat} {A : Around} (r : Room k A) (h : j ≤ k) : Room j A := ⟨r.hd, by have := r.dp; omega, by have := r.un; omega⟩
theorem Room.deeper {k : Nat} {A : Around} (r : Room (k + 1) A) (env : Env) : Room k (A.deeper env) :=
  ⟨r.hd, by have := r.dp; show A.depth + 1 + 3 * k + 5 < _; omega, by have := r.un; show A.units + 3 + 16 * k + 200 < _; omega⟩
theorem make_depth {A : Around} {C : Addr} {us : List Value} {kw : List (Str × Value)} : (A.under (.builtin "type.__call__" ⟨.ref C :: us, kw⟩)).depth = A.depth + 1 := by
  first | rfl | simp [Around.under, Code.weight, Code.isCreation, Code.isGuard, Code.isCaller, Code.frames, Code.isFrame, guardIds]
theorem make_units {A : Around} {C : Addr} {us : List Value} {kw : List (Str × Value)} : (A.under (.builtin "type.__call__" ⟨.ref C :: us, kw⟩)).units = A.units + 1 := by
  first | rfl | simp [Around.under, Code.cUnits, Code.frames, Code.isFrame]
theorem Room.make {k : Nat} {A : Around} (r : Room (k + 1) A) (C : Addr) (us : List Value) (kw : List (Str × Value)) : Room k (A.under (.builtin "type.__call__" ⟨.ref C :: us, kw⟩)) :=
  ⟨r.hd, by have := r.dp; rw [make_depth]; omega, by have := r.un; rw [make_units]; omega⟩
theorem Room.depth {k : Nat} {A : Around} (r : Room k A) : A.depth < recursionLimit := by have := r.dp; omega
def tNil : TA := fun _ H Q => Q [] H
def tCons (ta : TE) (tr : TA) : TA := fun σ H Q => ta σ H fun x H1 => tr σ H1 fun xs H2 => Q (x :: xs) H2
section
variable {X : Cx} {e : Expr} {es : List Expr} {te : TE} {t : TA} {pos : Pos}
theorem pa_nil : PA X [] tNil := fun _ _ _ _ H Q I h => Calls.spliced_nil ⟨[], H, I, .nil, h⟩
theorem pa_cons (ha : PE X e te) (hr : PA X es t) (hs : starEach (e :: es) X.env = (false, eval e X.env) :: starEach es X.env := by rfl) : PA X (e :: es) (tCons te t) := by
  intro pos pins s σ H Q I h
  rw [hs]
  show wpAny _ _ (spliced ((false, eval e X.env) :: backTo pos (starEach es X.env))) _ _ s
  refine Calls.spliced_cons (thn (ha pins s σ H _ I h) fun u s1 ⟨x, H1, I1, r1, q1⟩ => ?_)
  exact thn (hr pos pins s1 σ H1 _ I1 q1) fun us s2 ⟨xs, H2, I2, r2, q2⟩ => ⟨x :: xs, H2, I2, .cons r1 r2, q2⟩
def tTup (t : TA) : TE := fun σ H Q => t σ H fun xs H1 => xs.length ≤ sizeLine ∧ ∀ p, H1 p = none → Q (.ref p) (upd H1 p (.tup xs))
def tLst (t : TA) : TE := fun σ H Q => t σ H fun xs H1 => xs.length ≤ sizeLine ∧ ∀ p, H1 p = none → Q (.ref p) (upd H1 p (.lst xs))
theorem pe_tup {x1} (h : PA X es t) : PE X (.Tuple es x1 pos) (tTup t) := by
  intro pins s σ H Q I hq
  refine wpAny_Tuple_spliced (thn (h pos pins s σ H _ I hq) fun us s1 ⟨xs, H1, I1, r, z, q⟩ => ⟨by rw [← r.length]; exact z, ?_⟩)
  have hf : H1 s1.heap.objs.size = none := I1.hok.fresh (Nat.le_refl _)
  refine ⟨.ref s1.heap.objs.size, upd H1 s1.heap.objs.size (.tup xs), I1.laid (t' := s1.toks) (fun b u e => Heap.get?_push_of_some _ e) (Nat.le_refl _) ?_, rfl, q _ hf⟩
  exact ⟨z, us, r, ⟨_, Heap.get?_push_size _ rfl, rfl, _, rfl⟩⟩
theorem pe_lst (h : PA X es t) : PE X (.List es pos) (tLst t) := by
  intro pins s σ H Q I hq
  refine wpAny_List_spliced (thn (h pos pins s σ H _ I hq) fun us s1 ⟨xs, H1, I1, r, z, q⟩ => ⟨by rw [← r.length]; exact z, ?_⟩)
  have hf : H1 s1.heap.objs.size = none := I1.hok.fresh (Nat.le_refl _)
  refine ⟨.ref s1.heap.objs.size, upd H1 s1.heap.objs.size (.lst xs), I1.laid (t' := s1.toks) (fun b u e => Heap.get?_push_of_some _ e) (Nat.le_refl _) ?_, rfl, q _ hf⟩
  exact ⟨z, us, 0, r, Heap.get?_push_size _ rfl⟩
end
abbrev Sp := List V → Hp → VK → XK → Prop
abbrev CXT := List Env → Hp → Shared → XK → Value → Shared → Prop
structure Env0 (P : Program) (w : World) (K : PySem.W.Frag) (mg : Str → Option Value) (base : Heap) (A : Around) (outer : List Env) (s : Shared) (H : Hp) : Prop where
  frames : A.frames = some outer
  mod : Mod K mg base
  bs : ∀ b o, base.get? b = some o → s.heap.get? b = some o ∧ H b = none
  bsz : base.objs.size ≤ s.heap.objs.size
  funs : s.heap.FunFrames base outer
  frf : ∀ b ∈ frs outer, H b = none
  hok : HOk P w H s.heap
  bare : AllBare s.gens
def CE (outer : List Env) (P : Program) (w : World) (H : Hp) (s : Shared) (Q : VK) (u : Value) (s' : Shared) : Prop :=
  ∃ v H', s'.os = s.os ∧ AllBare s'.gens ∧ Un (frs outer) [] H H' s.heap s'.heap ∧ HOk P w H' s'.heap ∧ RelV v u ∧ Q v H'
def CR (CX : CXT) (outer : List Env) (P : Program) (w : World) (H : Hp) (s : Shared) (Q : VK) (E : XK) (r : Result) (s' : Shared) : Prop :=
  match r with
  | .ok (.ret u) => CE outer P w H s Q u s'
  | .ok _ => False
  | .error e => CX outer H s E e s'
structure FnOk (P : Program) (w : World) (K : PySem.W.Frag) (mg : Str → Option Value) (base : Heap) (CX : CXT) (k : Nat) (f : Addr) (fd : FuncData) (ps : List Str) (sp : Sp) : Prop where
  len : ∀ vs H Q E, sp vs H Q E → vs.length = ps.length
  run : ∀ (A : Around) (outer : List Env) (s : Shared) (H : Hp) (args : Args) (us : List Value) (vs : List V) (Q : VK) (E : XK), Room k A → Env0 P w K mg base A outer s H → BindsTo s fd args (ps.zip us) → Vals vs us → sp vs H Q E →
    codeAny (model P w) A (.call (.ref f) args) (CR CX outer P w H s Q E) s
theorem FnOk.imp {P : Program} {w : World} {K : PySem.W.Frag} {mg : Str → Option Value} {base : Heap} {CX : CXT} {k : Nat} {f : Addr} {fd : FuncData} {ps : List Str} {sp sp' : Sp} (F : FnOk P w K mg base CX k f fd ps sp)
    (h : ∀ vs H Q E, sp' vs H Q E → sp vs H Q E) : FnOk P w K mg base CX k f fd ps sp' :=
  ⟨fun vs H Q E q => F.len vs H Q E (h _ _ _ _ q), fun A outer s H args us vs Q E hr he hb hv hs => F.run A outer s H args us vs Q E hr he hb hv (h _ _ _ _ hs)⟩
theorem Env0.make {P : Program} {w : World} {K : PySem.W.Frag} {mg : Str → Option Value} {base : Heap} {A : Around} {outer : List Env} {s : Shared} {H : Hp} (e : Env0 P w K mg base A outer s H) (C : Addr) (us : List Value) (kw : List (Str × Value)) :
    Env0 P w K mg base (A.under (.builtin "type.__call__" ⟨.ref C :: us, kw⟩)) outer s H := ⟨by first | exact e.frames | (simpa [Around.under, Code.envs, Code.isFrame, pushEnvs] using e.frames), e.mod, e.bs, e.bsz, e.funs, e.frf, e.hok, e.bare⟩
section
variable {X : Cx} {pins : List (Addr × Obj)} {σ : St} {H : Hp} {s s' : Shared}
theorem Inv.env0 (I : Inv X pins σ H s) : Env0 X.prog X.w X.K X.mg X.base X.A X.stack s H :=
  ⟨I.ok.frames, I.ok.mod, I.bs, Nat.le_trans I.ok.bsz I.sz, I.stack, I.stkFree, I.hok, I.bare⟩
theorem Inv.after {Q : VK} {u : Value} (I : Inv X pins σ H s) (h : CE X.stack X.prog X.w H s Q u s') : EP X pins σ Q u s' := by
  obtain ⟨v, H', os, bare, un, hok, r, q⟩ := h
  obtain ⟨hh, g, d, t, os'⟩ := s'
  obtain rfl : os' = s.os := os
  exact ⟨v, H', I.call (h' := hh) (g' := g) (d' := d) (t' := t) (ch := []) un hok bare (fun b z => absurd z (by simp)), r, q⟩
end
def tCall (sp : Sp) (dvs : List V) (E : XK) (t : TA) : TE := fun σ H Q => t σ H fun vs H1 => sp (vs ++ dvs) H1 Q E
def tMeth (C : Addr) (m : Str) (sp : Sp) (dvs : List V) (E : XK) (ta : TE) (t : TA) : TE := fun σ H Q => ta σ H fun x H1 => ∃ a dx fs, x = .ref a ∧ H1 a = some (.ins C dx fs) ∧ fs.lookup m = none ∧
  t σ H1 fun vs H2 => sp (x :: (vs ++ dvs)) H2 Q E
def tMake (C : Addr) (sp : Sp) (dvs : List V) (E : XK) (t : TA) : TE := fun σ H Q => t σ H fun vs H1 => ∀ x dx, H1 x = none → H1 dx = none → dx ≠ x →
  sp (.ref x :: (vs ++ dvs)) (upd (upd H1 dx (.own x)) x (.ins C dx [])) (fun v H2 => v = .non ∧ Q (.ref x) H2) E
def Binds (K : PySem.W.Frag) (fd : FuncData) (ps : List Str) (ds : List Value) : Prop :=
  ∀ (s : Shared) (us : List Value), K.In s.heap → (us ++ ds).length = ps.length → BindsTo s fd ⟨us, []⟩ (ps.zip (us ++ ds))
theorem Binds.all {K : PySem.W.Frag} {fd : FuncData} {ps : List Str} (h : ∀ us : List Value, us.length = ps.length → bindArgs fd ⟨us, []⟩ = pure (ps.zip us)) : Binds K fd ps [] := fun s us _ hl => by
  rw [List.append_nil] at hl ⊢
  exact .of_eq (h us hl)
def Passes (CX : CXT) (X : Cx) (E : XK) : Prop := ∀ (pins : List (Addr × Obj)) (σ : St) (H : Hp) (s : Shared) (e : Value) (s' : Shared), Inv X pins σ H s → CX X.stack H s E e s' → X.xe e s'
section
variable {X : Cx} {CX : CXT} {k : Nat} {f C : Addr} {fd : FuncData} {ps : List Str} {sp : Sp} {dvs : List V} {ds : List Value} {E : XK} {x m : Str} {p pos apos : Pos} {e o : Expr} {es : List Expr} {ta : TE} {t : TA}
theorem run_fn {pins : List (Addr × Obj)} {σ : St} {H : Hp} {s : Shared} {Q : VK} {us : List Value} {vs : List V} (F : FnOk X.prog X.w X.K X.mg X.base CX k f fd ps sp) (hr : Room k X.A) (hb : Binds X.K fd ps ds) (hd : Vals dvs ds) (hx : Passes CX X E)
    (I : Inv X pins σ H s) (r : Vals vs us) (h : sp (vs ++ dvs) H Q E) : wpAny (model X.prog X.w) X.A (call (.ref f) us) (EP X pins σ Q) X.xe s := by
  have r2 : Vals (vs ++ dvs) (us ++ ds) := r.append hd
  have hl : (us ++ ds).length = ps.length := by rw [← r2.length]; exact F.len _ _ _ _ h
  refine wpAny_call (codeAny_mono (F.run X.A X.stack s H ⟨us, []⟩ (us ++ ds) (vs ++ dvs) Q E hr I.env0 (hb s us I.kIn hl) r2 h) fun r s' hq => ?_)
  cases r with
  | error e => exact hx pins σ H s e s' I hq
  | ok fl =>
    cases fl with
    | ret u => exact I.after hq
    | next => exact False.elim hq
    | brk => exact False.elim hq
    | cont => exact False.elim hq
theorem pe_call (F : FnOk X.prog X.w X.K X.mg X.base CX k f fd ps sp) (hr : Room k X.A) (hg : Gl X x) (hm : X.mg x = some (.ref f)) (hk : PySem.W.keepIn X.K (.ref f) = true) (hb : Binds X.K fd ps ds) (hd : Vals dvs ds) (hx : Passes CX X E)
    (ha : PA X (e :: es) t) (hdb : (x == ("__debug__" : Str)) = false := by decide) (he : starEach (e :: es) X.env = (false, eval e X.env) :: starEach es X.env := by rfl) (hpl : (backTo pos (starEach es X.env)).any (·.1) = false := by rfl) :
    PE X (.Call (.Name x p) (e :: es) [] pos) (tCall sp dvs E t) := by
  intro pins s σ H Q I h
  refine wpAny_Call_Name_kw (ld_glob I hg hm ?_ hdb)
  refine PySem.W.callWith_K (h₀ := X.base) I.ok.mod.kin hk (thn (ha pos pins s σ H _ I h) fun us s1 ⟨vs, H1, I1, r, q⟩ => ⟨I1.kIn, ?_⟩) he hpl
  exact run_fn F hr hb hd hx I1 r q
theorem pe_meth {pl : Sem Bool} (he : PE X o ta) (c : Cls X.K C) (hm : Meth X.K C m f) (F : FnOk X.prog X.w X.K X.mg X.base CX k f fd ps sp) (hr : Room k X.A) (hb : Binds X.K fd ps ds) (hd : Vals dvs ds) (hx : Passes CX X E) (ha : PA X (e :: es) t)
    (hst : starEach (e :: es) X.env = (false, eval e X.env) :: starEach es X.env := by rfl) (hpl : (backTo pos (starEach es X.env)).any (·.1) = false := by rfl)
    (ht : eval (.Call (.Attribute o m apos) (e :: es) [] pos) X.env = (do
      let ov ← eval o X.env
      standAt apos.atName
      let (f, first) ← holding [ov] (getMethod ov m pl)
      callWith pos f first (backTo pos (starEach (e :: es) X.env)) (backToKw pos (keywordEach [] X.env))) := by rfl) :
    PE X (.Call (.Attribute o m apos) (e :: es) [] pos) (tMeth C m sp dvs E ta t) := by
  intro pins s σ H Q I h
  refine PySem.W.methodCall_KW (pl := pl) (thn (he pins s σ H _ I h) fun u s1 ⟨x, H1, I1, rx, a, dx, fs, ex, ea, l, q⟩ => ?_) ht
  subst ex
  obtain rfl : u = Value.ref a := rx
  refine getmeth_ok I1 ea c hm l ?_
  refine PySem.W.callWith_K (first := [.ref a]) (h₀ := X.base) I.ok.mod.kin hm.kp (thn (ha pos pins s1 σ H1 _ I1 q) fun us s2 ⟨vs, H2, I2, r, q2⟩ => ⟨I2.kIn, ?_⟩) hst hpl
  exact run_fn (us := .ref a :: us) (vs := .ref a :: vs) F hr hb hd hx I2 (.cons rfl r) q2
structure Mk (K : PySem.W.Frag) (C f : Addr) : Prop where
  makes : PySem.W.makesIn K C = true
  init : PySem.W.findIn K (.ref C) "__init__" = some (some (.ref f))
  fn : PySem.W.isFn K (.ref f) = true
  kp : PySem.W.keepIn K (.ref C) = true
theorem run_make {pins : List (Addr × Obj)} {σ : St} {H : Hp} {s : Shared} {Q : VK} {us : List Value} {vs : List V} (M : Mk X.K C f) (F : FnOk X.prog X.w X.K X.mg X.base CX k f fd ps sp) (hr : Room (k + 1) X.A) (hb : Binds X.K fd ps ds) (hd : Vals dvs ds)
    (hx : Passes CX X E) (I : Inv X pins σ H s) (r : Vals vs us)
    (h : ∀ x dx, H x = none → H dx = none → dx ≠ x → sp (.ref x :: (vs ++ dvs)) (upd (upd H dx (.own x)) x (.ins C dx [])) (fun v H2 => v = .non ∧ Q (.ref x) H2) E) :
    wpAny (model X.prog X.w) X.A (call (.ref C) us) (EP X pins σ Q) X.xe s := by
  have hq := h (s.heap.objs.size + 1) s.heap.objs.size (I.hok.fresh (Nat.le_succ _)) (I.hok.fresh (Nat.le_refl _)) (Nat.ne_of_lt (Nat.lt_succ_self _))
  have I2 := Inv.made (C := C) I
  have r2 : Vals (V.ref (s.heap.objs.size + 1) :: (vs ++ dvs)) (Value.ref (s.heap.objs.size + 1) :: (us ++ ds)) := .cons rfl (r.append hd)
  have hl : (Value.ref (s.heap.objs.size + 1) :: us ++ ds).length = ps.length := by
    have e := r2.length
    rw [F.len _ _ _ _ hq] at e
    exact e.symm
  refine wpAny_call (make_map (f := f) I.kIn M.makes M.init (beq_iff_eq.mp M.fn) (codeAny_mono (F.run _ X.stack _ _ ⟨Value.ref (s.heap.objs.size + 1) :: us, []⟩ (Value.ref (s.heap.objs.size + 1) :: (us ++ ds)) _ _ E (hr.make C us [])
    (I2.env0.make C us []) (hb _ (Value.ref (s.heap.objs.size + 1) :: us) I2.kIn hl) r2 hq) fun r s' hq' => ?_))
  cases r with
  | error e => exact hx pins σ _ _ e s' I2 hq'
  | ok fl =>
    cases fl with
    | ret u =>
      obtain ⟨v, H', I3, rv, ev, q3⟩ := I2.after hq'
      subst ev
      exact ⟨rv, ⟨V.ref (s.heap.objs.size + 1), H', I3, rfl, q3⟩⟩
    | next => exact False.elim hq'
    | brk => exact False.elim hq'
    | cont => exact False.elim hq'
theorem pe_make0 (M : Mk X.K C f) (F : FnOk X.prog X.w X.K X.mg X.base CX k f fd ps sp) (hr : Room (k + 1) X.A) (hg : Gl X x) (hm : X.mg x = some (.ref C)) (hb : Binds X.K fd ps ds) (hd : Vals dvs ds) (hx : Passes CX X E)
    (hdb : (x == ("__debug__" : Str)) = false := by decide) : PE X (.Call (.Name x p) [] [] pos) (tMake C sp dvs E tNil) := by
  intro pins s σ H Q I h
  refine wpAny_Call_Name_kw (ld_glob I hg hm ?_ hdb)
  exact PySem.W.callWith_K0 I.kIn M.kp (run_make (us := []) M F hr hb hd hx I .nil h)
end
section
variable {X : Cx} {CX : CXT} {k : Nat} {f C : Addr} {fd : FuncData} {ps ks : List Str} {sp : Sp} {E : XK} {x m : Str} {p pos apos kpos : Pos} {e o : Expr} {es : List Expr} {kws : List Keyword} {te ta : TE} {t tk : TA} {nm : Option Str}
variable {g : List Value → List Value → List Value} {gV : List V → List V → List V}
end
structure FnScope (N P : List Str) (sc : Scope) : Prop where
  kind : sc.kind = .function
  co : sc.isCoroutine = false
  gen : sc.isGenerator = false
  nd : N.Nodup
  pre : N.take P.length = P
  par : ∀ x ∈ P, sc.names.lookup x = some .local ∨ sc.names.lookup x = some .cell
  nofree : ∀ y ∈ sc.names, y.2 ≠ .free
theorem bindL_out {kindOf : Str → Option NameKind} {x : Str} : ∀ {binds : List (Str × Value)} {m : Str → Option Value}, (∀ v, (x, v) ∉ binds) → bindL kindOf binds m x = m x
  | [], _, _ => rfl
  | (n, v) :: r, m, h => by
    unfold bindL
    rw [bindL_out fun w hw => h w (List.mem_cons_of_mem _ hw)]
    split
    · have : x ≠ n := by rintro rfl; exact h v List.mem_cons_self
      simp [this]
    · rfl
theorem bindC_out {kindOf : Str → Option NameKind} {x : Str} : ∀ {binds : List (Str × Value)} {m : Str → Option Value}, (∀ v, (x, v) ∉ binds) → bindC kindOf binds m x = m x
  | [], _, _ => rfl
  | (n, v) :: r, m, h => by
    unfold bindC
    rw [bindC_out fun w hw => h w (List.mem_cons_of_mem _ hw)]
    split
    · rfl
    · have : x ≠ n := by rintro rfl; exact h v List.mem_cons_self
      simp [this]
theorem bindL_get {kindOf : Str → Option NameKind} {x : Str} {v : Value} : ∀ {P : List Str} {vs : List Value} {i : Nat} {m : Str → Option Value}, P.Nodup → P[i]? = some x → vs[i]? = some v → kindOf x = some .local →
    bindL kindOf (P.zip vs) m x = some v
  | [], _, _, _, _, h, _, _ => by simp at h
  | _ :: _, [], _, _, _, _, h, _ => by simp at h
  | p :: P, w :: vs, 0, m, nd, h1, h2, hk => by
    simp at h1 h2; subst h1; subst h2
    show bindL kindOf ((p, w) :: P.zip vs) m p = _
    unfold bindL
    rw [bindL_out fun v hv => (List.nodup_cons.mp nd).1 (List.of_mem_zip hv).1, if_pos hk]
    simp
  | p :: P, w :: vs, i + 1, m, nd, h1, h2, hk => by
    show bindL kindOf ((p, w) :: P.zip vs) m x = _
    unfold bindL
    exact bindL_get (i := i) (List.nodup_cons.mp nd).2 (by simpa using h1) (by simpa using h2) hk
theorem bindC_get {kindOf : Str → Option NameKind} {x : Str} {v : Value} : ∀ {P : List Str} {vs : List Value} {i : Nat} {m : Str → Option Value}, P.Nodup → P[i]? = some x → vs[i]? = some v → kindOf x ≠ some .local →
    bindC kindOf (P.zip vs) m x = some v
  | [], _, _, _, _, h, _, _ => by simp at h
  | _ :: _, [], _, _, _, _, h, _ => by simp at h
  | p :: P, w :: vs, 0, m, nd, h1, h2, hk => by
    simp at h1 h2; subst h1; subst h2
    show bindC kindOf ((p, w) :: P.zip vs) m p = _
    unfold bindC
    rw [bindC_out fun v hv => (List.nodup_cons.mp nd).1 (List.of_mem_zip hv).1, if_neg hk]
    simp
  | p :: P, w :: vs, i + 1, m, nd, h1, h2, hk => by
    show bindC kindOf ((p, w) :: P.zip vs) m x = _
    unfold bindC
    exact bindC_get (i := i) (List.nodup_cons.mp nd).2 (by simpa using h1) (by simpa using h2) hk
def start (N : List Str) (vs : List V) : St := vs.map some ++ List.replicate (N.length - vs.length) none
def cxOf (CX : CXT) (P : Program) (w : World) (K : PySem.W.Frag) (mg : Str → Option Value) (base : Heap) (N : List Str) (qual : Str) (scope : Scope) (f : Addr) (cd : Value) (A : Around) (outer : List Env) (s : Shared) (H : Hp) (E : XK) : Cx where
  prog := P
  w := w
  K := K
  mg := mg
  base := base
  A := A.deeper (envOfC qual scope s.heap.objs.size f cd)
  N := N
  s₀ := s
  H₀ := H
  env := envOfC qual scope s.heap.objs.size f cd
  outer := outer
  stack := envOfC qual scope s.heap.objs.size f cd :: outer
  ex := []
  calm := true
  fn := fun _ => true
  pn := []
  xe := fun e s' => wpAny (model P w) (A.deeper (envOfC qual scope s.heap.objs.size f cd)) (leaving (envOfC qual scope s.heap.objs.size f cd) e) (fun _ s'' => CX outer H s E e s'') (fun e' s'' => CX outer H s E e' s'') s'
theorem cell_has {sc : Scope} {n : Nat} {x : Str} (h : sc.names.lookup x = some .cell) : ∃ c, (cellsFrom n sc.names []).lookup x = some c := by
  have q := PySem.W.cellsFrom_some sc.names n [] (.inl h)
  exact Option.isSome_iff_exists.mp q
theorem inv_start {CX : CXT} {P : Program} {w : World} {K : PySem.W.Frag} {mg : Str → Option Value} {base : Heap} {N ps : List Str} {qual : Str} {scope : Scope} {f : Addr} {cd : Value} {A : Around} {outer : List Env} {s s1 : Shared} {H : Hp} {E : XK} {us : List Value} {vs : List V}
    (S : FnScope N ps scope) (hd : A.handled = none) (e0 : Env0 P w K mg base A outer s H) (hl : vs.length = ps.length) (r : Vals vs us)
    (x : InCallC s s.heap.objs.size (bindL (envOfC qual scope s.heap.objs.size f cd).kindOf (ps.zip us) fun _ => none) (cellsFrom (s.heap.objs.size + 1) scope.names []) (bindC (envOfC qual scope s.heap.objs.size f cd).kindOf (ps.zip us) fun _ => none) s1) :
    Inv (cxOf CX P w K mg base N qual scope f cd A outer s H E) [] (start N vs) H s1 := by
  have hpl : ps.length ≤ N.length := by have := congrArg List.length S.pre; rw [List.length_take] at this; omega
  obtain ⟨h1, tk, rfl, hk⟩ := x.done
  have noA : ∀ b : Addr, b ∉ (cxOf CX P w K mg base N qual scope f cd A outer s H E).ex := fun b z => absurd (show b ∈ ([] : List Addr) from z) (by simp)
  refine ⟨⟨e0.mod, S.kind, rfl, rfl, Nat.le_refl _, fun y z c h1 h2 => ?_, fun y hy => ?_, fun y c _ h => ?_, fun _ => hd, Around.frames_deeper e0.frames, .inr ⟨rfl, rfl⟩, fun b z => absurd z (noA b), e0.bs, e0.bsz, fun b _ _ => noA b, fun b z => absurd z (noA b), e0.funs, e0.frf⟩,
    rfl, e0.bare, Un.kept hk, ⟨_, x.toInCall.ns, fun i y v h1 h2 h3 => ?_⟩, fun y c h => ⟨_, x.cell y c h⟩, e0.hok.fresh (Nat.le_refl _), fun y c h => ?_, fun p hp => absurd (show p ∈ ([] : List (Addr × Obj)) from hp) (by simp), e0.hok.kept hk, ?_⟩
  · exact name_of_addr x.apart (PySem.mem_of_lookup h1) (PySem.mem_of_lookup h2)
  · have hy : scope.names.lookup y = some .cell ∨ scope.names.lookup y = some .free := hy
    rcases hy with hy | hy
    · exact cell_has hy
    · exact absurd rfl (S.nofree _ (PySem.mem_of_lookup hy))
  · exact Nat.le_of_lt (x.above y c (PySem.mem_of_lookup h))
  · have hi : i < vs.length := by
      unfold start at h2
      by_cases hi : i < vs.length
      · exact hi
      · rw [List.getElem?_append_right (by simpa using hi)] at h2
        rw [List.getElem?_replicate] at h2
        split at h2 <;> cases h2
    have ha : vs[i]? = some v := by
      unfold start at h2
      rw [List.getElem?_append_left (by simpa using hi), List.getElem?_map] at h2
      cases e : vs[i]? with
      | none => rw [e] at h2; cases h2
      | some a => rw [e] at h2; cases h2; rfl
    obtain ⟨u, hu, rv⟩ := r.get ha
    have hp : ps[i]? = some y := by
      rw [← S.pre, List.getElem?_take_of_lt (by omega)]; exact h1
    have ndP : ps.Nodup := by rw [← S.pre]; exact S.nd.sublist (List.take_sublist _ _)
    refine ⟨u, rv, ?_⟩
    rcases S.par y (List.mem_of_getElem? hp) with k | k
    · exact .inl ⟨k, bindL_get ndP hp hu k⟩
    · obtain ⟨c, e⟩ := cell_has (n := s.heap.objs.size + 1) k
      refine .inr ⟨.inl k, c, e, ?_⟩
      have q := x.cell y c e
      rw [bindC_get ndP hp hu (by show scope.names.lookup y ≠ _; rw [k]; decide)] at q
      exact q
  · exact e0.hok.fresh (Nat.le_of_lt (x.above y c (PySem.mem_of_lookup h)))
  · unfold start
    show _ = N.length
    rw [List.length_append, List.length_map, List.length_replicate]
    omega
theorem fn_of {CX : CXT} {P : Program} {w : World} {K : PySem.W.Frag} {mg : Str → Option Value} {base : Heap} {k : Nat} {f : Addr} {name qual : Str} {params : Arguments} {body : List Stmt} {scope : Scope} {dV kV doc pm cdv ct oc : Value} {an od : Option Addr}
    {osl : Array (Option Value)} {N ps : List Str} {sp : Sp} (lk : K.lookup f = some ⟨oc, od, .func (PySem.W.fnOf name qual params body scope dV kV doc pm an cdv ct), osl⟩) (hcd : PySem.W.codeIn K cdv qual = true) (S : FnScope N ps scope)
    (len : ∀ vs H Q E, sp vs H Q E → vs.length = ps.length)
    (hbody : ∀ (A : Around) (outer : List Env) (s : Shared) (H : Hp) (vs : List V) (Q : VK) (E : XK), Room k (A.deeper (envOfC qual scope s.heap.objs.size f cdv)) → sp vs H Q E →
      ∃ t, PSs (cxOf CX P w K mg base N qual scope f cdv A outer s H E) body t ∧ t { nx := fun _ H' => Q .non H', rt := Q } (start N vs) H) :
    FnOk P w K mg base CX (k + 1) f (PySem.W.fnOf name qual params body scope dV kV doc pm an cdv ct) ps sp := by
  refine ⟨len, fun A outer s H args us vs Q E hr e0 hb r hsp => ?_⟩
  have hl := len _ _ _ _ hsp
  have KX : K.In s.heap := e0.mod.kin.keeps fun b o e => (e0.bs b o e).1
  have lim : s.heap.NoLimit := e0.mod.nolimit.keeps fun b o e => (e0.bs b o e).1
  have hkind : ∀ y ∈ ps.zip us, scope.names.lookup y.1 = some .local ∨ (scope.names.lookup y.1 = some .cell ∧ ((cellsFrom (s.heap.objs.size + 1) scope.names []).lookup y.1).isSome = true) := fun ⟨n, v⟩ hy => by
    rcases S.par n (List.of_mem_zip hy).1 with q | q
    · exact .inl q
    · exact .inr ⟨q, PySem.W.cellsFrom_some _ _ _ (.inl q)⟩
  refine codeAny_call_function hr.depth (KX _ _ lk) rfl S.co S.gen rfl (PySem.W.codeRec_of KX hcd) (hb _ _ _ _ ?_)
  refine wpAny_newFunctionEnv_cells S.kind hkind fun env he s1 x => ?_
  subst he
  refine ⟨lim.keeps x.toInCall.keep, codeAny_func ?_⟩
  obtain ⟨t, ht, hq⟩ := hbody A outer s H vs Q E (hr.deeper _) hsp
  have I : Inv (cxOf CX P w K mg base N qual scope f cdv A outer s H E) [] (start N vs) H s1 := inv_start S hr.hd e0 hl r x
  refine wpAny_mono (ht [] s1 (start N vs) H _ I hq) (fun fl s' hs => ?_) fun e s' hs => hs
  have fin : ∀ {σ' : St} {H' : Hp} {v : V} {u : Value}, Inv (cxOf CX P w K mg base N qual scope f cdv A outer s H E) [] σ' H' s' → RelV v u → Q v H' → CE outer P w H s Q u s' :=
    fun {σ' H' v u} J rv q => ⟨v, H', J.os, J.bare, J.base, J.hok, rv, q⟩
  cases fl with
  | ret u =>
    obtain ⟨v, σ', H', J, rv, q⟩ := hs
    exact fin J rv q
  | next =>
    obtain ⟨σ', H', J, q⟩ := hs
    exact fin (v := V.non) (u := Value.none) J rfl q
  | brk =>
    obtain ⟨_, _, _, q⟩ := hs
    exact False.elim q
  | cont =>
    obtain ⟨_, _, _, q⟩ := hs
    exact False.elim q
end L2
namespace L2
open PySem PySem.Spec PyProof.Rows
section
variable {X : Cx} {x : Str} {p pos : Pos} {e : Expr} {es : List Expr} {t : TA} {id T : String} {r : List V → Hp → VK → Prop}
def tCB (r : List V → Hp → VK → Prop) (t : TA) : TE := fun σ H Q => t σ H fun vs H1 => r vs H1 Q
theorem pe_callB (hc : CallR X (.builtin id) r) (hg : Gl X x) (hm : X.mg x = none) (hv : bootBuiltins x = some (.builtin id)) (ha : PA X (e :: es) t) (hn : x ≠ "__name__" := by decide) (hdb : (x == ("__debug__" : Str)) = false := by decide)
    (he : starEach (e :: es) X.env = (false, eval e X.env) :: starEach es X.env := by rfl) (hpl : (backTo pos (starEach es X.env)).any (·.1) = false := by rfl) : PE X (.Call (.Name x p) (e :: es) [] pos) (tCB r t) := by
  intro pins s σ H Q I h
  refine wpAny_Call_Name_kw (ld_blt I hg hm hv ?_ hn hdb)
  exact PyProof.Rows.callWith_builtin1 (thn (ha pos pins s σ H _ I h) fun us s1 ⟨vs, H1, I1, r1, q1⟩ => hc pins s1 σ H1 vs us Q I1 r1 q1) he hpl
theorem pe_callTy (hc : CallR X (.type T) r) (hg : Gl X x) (hm : X.mg x = none) (hv : bootBuiltins x = some (.type T)) (ha : PA X (e :: es) t) (hn : x ≠ "__name__" := by decide) (hdb : (x == ("__debug__" : Str)) = false := by decide)
    (he : starEach (e :: es) X.env = (false, eval e X.env) :: starEach es X.env := by rfl) (hpl : (backTo pos (starEach es X.env)).any (·.1) = false := by rfl) : PE X (.Call (.Name x p) (e :: es) [] pos) (tCB r t) := by
  intro pins s σ H Q I h
  refine wpAny_Call_Name_kw (ld_blt I hg hm hv ?_ hn hdb)
  exact PyProof.Rows.callWith_type1 (thn (ha pos pins s σ H _ I h) fun us s1 ⟨vs, H1, I1, r1, q1⟩ => hc pins s1 σ H1 vs us Q I1 r1 q1) he hpl
end
end L2
namespace HT
open PySem PyProof.Rows
section
open PySem.SeqAt
open PySem.AutoSeq1 (wpAny_loadPart')
open PySem.MeetsSeq PySem.MeetsSeq2 PySem.MeetsSeq3
end
section
variable {prog : Program} {w : World} {A : Around} {E : Value → Shared → Prop} {s : Shared}
def sIx (n d : Nat) : Option Int → Nat
  | none => d
  | some v => if v < 0 then (v + (n : Int)).toNat else min v.toNat n
theorem sIx_none (n d : Nat) : sIx n d none = d := rfl
theorem sIx_nat (n d k : Nat) : sIx n d (some (k : Int)) = min k n := by
  show (if (k : Int) < 0 then ((k : Int) + (n : Int)).toNat else min (k : Int).toNat n) = min k n
  rw [if_neg (by omega), Int.toNat_natCast]
end
end HT
namespace L2
open PySem PySem.Spec PyProof.Rows
abbrev TO := St → Hp → (Option Int → Hp → Prop) → Prop
def PO (X : Cx) (e : Option Expr) (t : TO) : Prop :=
  ∀ (pins : List (Addr × Obj)) (s : Shared) (σ : St) (H : Hp) (Q : Option Int → Hp → Prop), Inv X pins σ H s → t σ H Q →
    wpAny (model X.prog X.w) X.A (evalPart e X.env) (fun u s' => ∃ o H', Inv X pins σ H' s' ∧ IsPart u o ∧ Q o H') X.xe s
def tNoPart : TO := fun _ H Q => Q none H
def tPart (t : TE) : TO := fun σ H Q => t σ H fun x H1 => ∃ i, x = .int i ∧ Q (some i) H1
section
variable {X : Cx} {e : Expr} {te : TE} {lo hi : Option Expr} {tl th : TO} {pos p2 : Pos}
theorem po_none : PO X none tNoPart := by
  intro pins s σ H Q I h
  rw [evalPart_none]
  exact wpAny_pure ⟨none, H, I, .none, h⟩
theorem po_some (h : PE X e te) : PO X (some e) (tPart te) := by
  intro pins s σ H Q I hw
  rw [evalPart_some]
  refine thn (h pins s σ H _ I hw) fun u s1 ⟨x, H1, I1, r1, q1⟩ => ?_
  obtain ⟨i, rfl, q⟩ := q1
  obtain ⟨t, rfl⟩ := r1
  exact ⟨some i, H1, I1, .int i t, q⟩
def SlR (X : Cx) (r : V → Option Int → Option Int → Hp → VK → Prop) : Prop :=
  ∀ (pins : List (Addr × Obj)) (s : Shared) (σ : St) (H : Hp) (x : V) (v vl vu : Value) (lo hi : Option Int) (sl : Addr) (Q : VK), Inv X pins σ H s → RelV x v → s.heap.IsSliceOf sl vl vu .none → IsPart vl lo → IsPart vu hi → r x lo hi H Q →
    ∃ T id, typeLookup (.type T) "__getitem__" = pure (some (.builtin id)) ∧ s.TypeIs v T ∧ wpAny (model X.prog X.w) X.A (getItem v (.ref sl)) (EP X pins σ Q) X.xe s
def tSl (r : V → Option Int → Option Int → Hp → VK → Prop) (te : TE) (tl th : TO) : TE := fun σ H Q => te σ H fun x H1 => tl σ H1 fun l H2 => th σ H2 fun u H3 => r x l u H3 Q
theorem pe_slice {r : V → Option Int → Option Int → Hp → VK → Prop} (hr : SlR X r) (he : PE X e te) (hl : PO X lo tl) (hu : PO X hi th) : PE X (.Subscript e (.Slice lo hi none p2) pos) (tSl r te tl th) := by
  intro pins s σ H Q I h
  refine Subscript_ (thn (he pins s σ H _ I h) fun v s1 ⟨x, H1, I1, r1, q1⟩ => ?_)
  refine wpAny_Slice (thn (hl pins s1 σ H1 _ I1 q1) fun vl s2 ⟨l, H2, I2, pl, q2⟩ => thn (hu pins s2 σ H2 _ I2 q2) fun vu s3 ⟨u, H3, I3, pu, q3⟩ => ?_)
  rw [evalPart_none]
  refine wpAny_pure ?_
  have I4 : Inv X pins σ H3 { s3 with heap := s3.heap.push { cls := .type "slice", data := .fields #[vl, vu, .none] } } := I3.kept (t' := s3.toks) fun b ob q => Heap.get?_push_of_some _ q
  obtain ⟨T, id, hT, ht, hg⟩ := hr pins { s3 with heap := s3.heap.push { cls := .type "slice", data := .fields #[vl, vu, .none] } } σ H3 x v vl vu l u s3.heap.objs.size Q I4 r1 (Heap.IsSliceOf.new ..) pl pu q3
  show wpAny (model X.prog X.w) X.A (subscriptTail e (.Slice lo hi none p2) v (.ref s3.heap.objs.size)) (EP X pins σ Q) X.xe { s3 with heap := s3.heap.push { cls := .type "slice", data := .fields #[vl, vu, .none] } }
  exact tail_any (ops := [.ref s3.heap.objs.size, v]) ht hT hg (by with_unfolding_all rfl)
def cutV (xs : List V) (lo hi : Option Int) : List V := (xs.drop (HT.sIx xs.length 0 lo)).take (HT.sIx xs.length xs.length hi - HT.sIx xs.length 0 lo)
theorem cutV_length (xs : List V) (lo hi : Option Int) : (cutV xs lo hi).length ≤ xs.length := by
  unfold cutV
  rw [List.length_take, List.length_drop]
  omega
end
end L2
namespace L2
open PySem PySem.Spec PyProof.Rows
def ixN (n : Nat) (i : Int) : Option Nat := if 0 ≤ i then (if i < n then some i.toNat else none) else if -(n : Int) ≤ i then some (i + n).toNat else none
def atI {α : Type} (xs : List α) (i : Int) : Option α := (ixN xs.length i).bind fun j => xs[j]?
theorem ixN_seq {n : Nat} {i : Int} {j : Nat} (h : ixN n i = some j) : seqIndex? i n = some j ∧ j < n ∧ -(n : Int) ≤ i ∧ i < n := by
  unfold ixN at h
  by_cases h0 : 0 ≤ i
  · rw [if_pos h0] at h
    by_cases h1 : i < n
    · rw [if_pos h1] at h
      have e : i.toNat = j := Option.some.inj h
      exact ⟨by rw [seqIndex_of h0 h1, e], by omega, by omega, h1⟩
    · rw [if_neg h1] at h; cases h
  · rw [if_neg h0] at h
    by_cases h1 : -(n : Int) ≤ i
    · rw [if_pos h1] at h
      have e : (i + n).toNat = j := Option.some.inj h
      exact ⟨by rw [seqIndex_neg (by omega) h1, e], by omega, h1, by omega⟩
    · rw [if_neg h1] at h; cases h
theorem atI_get {α : Type} {xs : List α} {i : Int} {v : α} (h : atI xs i = some v) : ∃ j, seqIndex? i xs.length = some j ∧ xs[j]? = some v ∧ j < xs.length ∧ -(xs.length : Int) ≤ i ∧ i < xs.length := by
  unfold atI at h
  cases e : ixN xs.length i with
  | none => rw [e] at h; cases h
  | some j =>
    rw [e] at h
    obtain ⟨h1, h2, h3, h4⟩ := ixN_seq e
    exact ⟨j, h1, h, h2, h3, h4⟩
theorem atI_nat {α : Type} {xs : List α} {j : Nat} {v : α} (h : xs[j]? = some v) : atI xs (j : Int) = some v := by
  have hj : j < xs.length := (List.getElem?_eq_some_iff.mp h).1
  have e : ixN xs.length (j : Int) = some j := by
    unfold ixN
    rw [if_pos (by omega), if_pos (by omega)]; simp
  unfold atI; rw [e]; exact h
def PlainIx (b : Expr) : Prop := ∀ o i, subscripted b false o i = operate [o, i] (getItem o i)
def IxR (X : Cx) (r : R2) : Prop :=
  ∀ (value slice : Expr) (pins : List (Addr × Obj)) (s : Shared) (σ : St) (H : Hp) (x y : V) (v u : Value) (Q : VK), Inv X pins σ H s → RelV x v → RelV y u → r x y H Q →
    subscripted slice false v u = operate [v, u] (getItem v u) → wpAny (model X.prog X.w) X.A (subscriptTail value slice v u) (EP X pins σ Q) X.xe s
def MtR (X : Cx) (id : String) (r : V → List V → Hp → VK → Prop) : Prop :=
  ∀ (pins : List (Addr × Obj)) (s : Shared) (σ : St) (H : Hp) (x : V) (xs : List V) (v : Value) (us : List Value) (Q : VK), Inv X pins σ H s → RelV x v → Vals xs us → r x xs H Q →
    wpAny (model X.prog X.w) X.A (call (.builtin id) (v :: us)) (EP X pins σ Q) X.xe s
section
variable {X : Cx} {a b : Expr} {ta tb : TE} {pos : Pos}
theorem pe_ix {r : R2} (hr : IxR X r) (ha : PE X a ta) (hb : PE X b tb) (hs : PlainIx b) : PE X (.Subscript a b pos) (tOp r ta tb) := by
  intro pins s σ H Q I h
  exact Subscript_ (binT ha hb I h fun v u s2 x y H2 I2 rx ry q => hr a b pins s2 σ H2 x y v u Q I2 rx ry q (hs _ _))
def rIxL (K : PySem.W.Frag) : R2 := fun x y H Q => ∃ p xs i v, x = .ref p ∧ y = .int i ∧ SqL K H p xs ∧ atI xs i = some v ∧ Q v H
def rIxT (K : PySem.W.Frag) : R2 := fun x y H Q => ∃ p xs i v, x = .ref p ∧ y = .int i ∧ SqT K H p xs ∧ atI xs i = some v ∧ Q v H
def rIxS : R2 := fun x y H Q => ∃ z i c, x = .str z ∧ y = .int i ∧ z.length ≤ sizeLine ∧ atI z.cps.toList i = some c ∧ Q (.str ⟨#[c]⟩) H
theorem ix_list : IxR X (rIxL X.K) := by
  intro value slice pins s σ H x y v u Q I rx ry h hs
  obtain ⟨p, xs, i, z, rfl, rfl, hq, he, q⟩ := h
  cases rx
  obtain ⟨t, rfl⟩ := ry
  obtain ⟨its, r, pl, hz⟩ := I.list hq
  obtain ⟨j, h1, h2, h3, h4, h5⟩ := atI_get he
  obtain ⟨w, ew, rw'⟩ := r.get h2
  have hl := r.length
  have hn := line63
  have fin : EP X pins σ Q w s := ⟨z, H, I, rw', q⟩
  by_cases h0 : 0 ≤ i
  · have hj : i.toNat = j := by
      rw [seqIndex_of h0 h5] at h1
      exact Option.some.inj h1
    exact item_listR pl.isList h0 (by omega) (by rw [hj]; simpa using ew) fin hs
  · have hj : (i + (its.toArray.size : Int)).toNat = j := by
      rw [seqIndex_neg (by omega) h4] at h1
      rw [List.size_toArray, ← hl]
      exact Option.some.inj h1
    exact subscriptTail_builtinR (x := w) pl.isList.typeIs slot_list_getitem.lookup
      (wpAny_getItem_list_neg (Q := fun r s' => r = w ∧ EP X pins σ Q r s') pl.isList (by omega) (by rw [List.size_toArray] <;> omega) (by omega) (by rw [hj]; simpa using ew) ⟨rfl, fin⟩) hs
theorem ix_tup : IxR X (rIxT X.K) := by
  intro value slice pins s σ H x y v u Q I rx ry h hs
  obtain ⟨p, xs, i, z, rfl, rfl, hq, he, q⟩ := h
  cases rx
  obtain ⟨t, rfl⟩ := ry
  obtain ⟨its, r, pl, hz⟩ := I.tuple hq
  obtain ⟨j, h1, h2, h3, h4, h5⟩ := atI_get he
  obtain ⟨w, ew, rw'⟩ := r.get h2
  have hl := r.length
  have hn := line63
  have fin : EP X pins σ Q w s := ⟨z, H, I, rw', q⟩
  exact subscriptTail_builtinR (x := w) pl.typeIs slot_tuple_getitem.lookup
    (getItem_tuple (j := j) (Q := fun r s' => r = w ∧ EP X pins σ Q r s') pl (by omega) (by omega) (by rw [List.size_toArray, ← hl]; exact h1) (by simpa using ew) ⟨rfl, fin⟩) hs
theorem ix_str : IxR X rIxS := by
  intro value slice pins s σ H x y v u Q I rx ry h hs
  obtain ⟨z, i, c, rfl, rfl, hz, he, q⟩ := h
  obtain ⟨t, rfl⟩ := rx
  obtain ⟨t', rfl⟩ := ry
  obtain ⟨j, h1, h2, h3, h4, h5⟩ := atI_get he
  have hl : z.cps.toList.length = z.length := by simp [Str.length]
  rw [hl] at h1 h4 h5
  have hn := line63
  exact tail_any (typeIs_str s z t) slot_str_getitem.lookup (getItem_str (c := c) (by
    have e1 : decide (i < -(2 ^ 63 : Int)) = false := decide_eq_false (by omega)
    have e2 : decide (i ≥ 2 ^ 63) = false := decide_eq_false (by omega)
    rw [e1, e2, Bool.or_false]) (by rw [h1]; simpa using h2) ⟨.str ⟨#[c]⟩, H, I.tok _, ⟨_, rfl⟩, q⟩) hs
theorem slice_bounds (lo hi : Option Int) (n : Nat) : (sliceBounds lo hi none n).1 = ((HT.sIx n 0 lo : Nat) : Int) ∧ (sliceBounds lo hi none n).2.1 = ((HT.sIx n n hi : Nat) : Int) ∧ (sliceBounds lo hi none n).2.2 = 1 := by
  refine ⟨?_, ?_, rfl⟩
  · cases lo with
    | none => simp [sliceBounds, HT.sIx]
    | some i =>
      simp only [sliceBounds, HT.sIx, Option.getD_none, show (1 : Int) > 0 by decide, if_true]
      by_cases h : i < 0
      · simp only [h, if_true] <;> omega
      · simp only [h, if_false] <;> omega
  · cases hi with
    | none => simp [sliceBounds, HT.sIx]
    | some i =>
      simp only [sliceBounds, HT.sIx, Option.getD_none, show (1 : Int) > 0 by decide, if_true]
      by_cases h : i < 0
      · simp only [h, if_true] <;> omega
      · simp only [h, if_false] <;> omega
theorem slicePick_cut (its : List Value) (lo hi : Option Int) : slicePick its.toArray lo hi none = ((its.drop (HT.sIx its.length 0 lo)).take (HT.sIx its.length its.length hi - HT.sIx its.length 0 lo)).toArray := by
  obtain ⟨h1, h2, h3⟩ := slice_bounds lo hi its.toArray.size
  unfold slicePick
  rw [h1, h2, h3]
  simp only [sliceRange_one, pick_run, List.size_toArray] <;> rfl
def rSlL (K : PySem.W.Frag) : V → Option Int → Option Int → Hp → VK → Prop := fun x lo hi H Q => ∃ a xs, x = .ref a ∧ SqL K H a xs ∧ ∀ p, H p = none → Q (.ref p) (upd H p (.lst (cutV xs lo hi)))
theorem sl_list : SlR X (rSlL X.K) := by
  intro pins s σ H x v vl vu lo hi sl Q I rx hs pl pu h
  obtain ⟨a, xs, rfl, hx, q⟩ := h
  cases rx
  obtain ⟨its, r, ht, hz⟩ := I.list hx
  have hlen := r.length
  refine ⟨"list", _, slot_list_getitem.lookup, ht.isList.typeIs, ?_⟩
  refine wpAny_getItem_list_slice ht.isList hs pl pu .none (by simp) ?_ (by rw [List.size_toArray] <;> omega)
  rw [slicePick_cut, ← hlen]
  refine ⟨.ref s.heap.objs.size, _, I.laid (t' := s.toks) (o := .lst (cutV xs lo hi)) (fun b ob q => Heap.get?_push_of_some _ q) (Nat.le_refl _) ?_, rfl, q _ (I.hok.fresh (Nat.le_refl _))⟩
  exact ⟨Nat.le_trans (cutV_length xs lo hi) hz, _, 0, (r.drop (HT.sIx xs.length 0 lo)).take (HT.sIx xs.length xs.length hi - HT.sIx xs.length 0 lo), Heap.get?_push_size _ rfl⟩
def flatV : V → Bool
  | .non => true
  | .bl _ => true
  | .int _ => true
  | .str _ => true
  | _ => false
def eqV : V → V → Bool
  | .non, .non => true
  | .bl a, .bl b => a == b
  | .bl a, .int b => (if a then 1 else 0) == b
  | .int a, .bl b => a == (if b then 1 else 0)
  | .int a, .int b => a == b
  | .str a, .str b => a == b
  | _, _ => false
theorem eqAt_V {A : Around} {s : Shared} {y x : V} {u v : Value} (ry : RelV y u) (rx : RelV x v) (fy : flatV y = true) (fx : flatV x = true) : SeqAt.EqAt A s u v (eqV y x) := by
  cases y with
  | non =>
    cases ry
    cases x with
    | non => cases rx; exact SeqAt.EqAt.same _
    | bl b => cases rx; exact SeqAt.EqAt.none_bool b
    | int b => obtain ⟨t, rfl⟩ := rx; exact SeqAt.EqAt.none_int b t
    | str b => obtain ⟨t, rfl⟩ := rx; exact SeqAt.EqAt.none_str b t
    | _ => exact absurd (show false = true from fx) Bool.false_ne_true
  | bl a =>
    cases ry
    cases x with
    | non => cases rx; exact SeqAt.EqAt.bool_none a
    | bl b => cases rx; exact SeqAt.EqAt.bool_bool a b
    | int b => obtain ⟨t, rfl⟩ := rx; exact SeqAt.EqAt.bool_int a b t
    | str b => obtain ⟨t, rfl⟩ := rx; exact SeqAt.EqAt.bool_str a b t
    | _ => exact absurd (show false = true from fx) Bool.false_ne_true
  | int a =>
    obtain ⟨t', rfl⟩ := ry
    cases x with
    | non => cases rx; exact SeqAt.EqAt.int_none a t'
    | bl b => cases rx; exact SeqAt.EqAt.int_bool a t' b
    | int b => obtain ⟨t, rfl⟩ := rx; exact SeqAt.EqAt.int_int a t' b t
    | str b => obtain ⟨t, rfl⟩ := rx; exact SeqAt.EqAt.int_str a t' b t
    | _ => exact absurd (show false = true from fx) Bool.false_ne_true
  | str a =>
    obtain ⟨t', rfl⟩ := ry
    cases x with
    | non => cases rx; exact SeqAt.EqAt.str_none a t'
    | bl b => cases rx; exact SeqAt.EqAt.str_bool a t' b
    | int b => obtain ⟨t, rfl⟩ := rx; exact SeqAt.EqAt.str_int a t' b t
    | str b => obtain ⟨t, rfl⟩ := rx; exact SeqAt.EqAt.str_str a t' b t
    | _ => exact absurd (show false = true from fx) Bool.false_ne_true
  | _ => exact absurd (show false = true from fy) Bool.false_ne_true
def eqU (x : V) (u : Value) : Bool := match u with
  | .none => eqV .non x
  | .bool b => eqV (.bl b) x
  | .int i _ => eqV (.int i) x
  | .str z _ => eqV (.str z) x
  | _ => false
theorem eqU_of {x y : V} {u : Value} (r : RelV y u) (f : flatV y = true) : eqU x u = eqV y x := by
  cases y with
  | non => cases r; rfl
  | bl b => cases r; rfl
  | int i => obtain ⟨t, rfl⟩ := r; rfl
  | str z => obtain ⟨t, rfl⟩ := r; rfl
  | _ => exact absurd (show false = true from f) Bool.false_ne_true
theorem any_eqU {x : V} : ∀ {xs : List V} {us : List Value}, Vals xs us → xs.all flatV = true → us.any (eqU x) = xs.any fun y => eqV y x
  | _, _, .nil, _ => rfl
  | y :: xs, u :: us, .cons r t, f => by
    rw [List.all_cons, Bool.and_eq_true] at f
    rw [List.any_cons, List.any_cons, eqU_of r f.1, any_eqU t f.2]
theorem mem_eqAt {A : Around} {s : Shared} {x : V} {v : Value} (rx : RelV x v) (fx : flatV x = true) : ∀ {xs : List V} {us : List Value}, Vals xs us → xs.all flatV = true → ∀ u ∈ us, SeqAt.EqAt A s u v (eqU x u)
  | _, _, .nil, _ => fun u hu => by cases hu
  | y :: xs, u :: us, .cons r t, f => fun u' hu => by
    rw [List.all_cons, Bool.and_eq_true] at f
    rcases List.mem_cons.mp hu with rfl | hu
    · rw [eqU_of r f.1]; exact eqAt_V r rx f.1 fx
    · exact mem_eqAt rx fx t f.2 u' hu
def inV (x : V) (xs : List V) : Bool := xs.any fun y => eqV y x
def rIn (K : PySem.W.Frag) (neg : Bool) : R2 := fun x y H Q => ∃ p xs, y = .ref p ∧ (SqL K H p xs ∨ SqT K H p xs) ∧ flatV x = true ∧ xs.all flatV = true ∧ Q (.bl (if neg then !inV x xs else inV x xs)) H
theorem op_in_seq : OpR X (compareOp .In) (rIn X.K false) := by
  intro pins s σ H x y v u Q I rx ry h
  obtain ⟨p, xs, rfl, hq, fx, fs, q⟩ := h
  cases ry
  rcases hq with hq | hq
  · obtain ⟨its, r, pl, hz⟩ := I.list hq
    refine SeqAt.in_listAt (eqU x) pl.isList (fun w hw => mem_eqAt rx fx r fs w (by simpa using hw)) ⟨.bl _, H, I, rfl, ?_⟩
    rw [show its.toArray.any (eqU x) = its.any (eqU x) by simp, any_eqU r fs]
    exact q
  · obtain ⟨its, r, pl, hz⟩ := I.tuple hq
    refine SeqAt.in_tupleAt (eqU x) pl (fun w hw => mem_eqAt rx fx r fs w (by simpa using hw)) ⟨.bl _, H, I, rfl, ?_⟩
    rw [show its.toArray.any (eqU x) = its.any (eqU x) by simp, any_eqU r fs]
    exact q
theorem call_len_seq : CallR X (.builtin "len") (fun xs H Q => ∃ p ys, xs = [.ref p] ∧ (SqL X.K H p ys ∨ SqT X.K H p ys) ∧ Q (.int ys.length) H) := by
  intro pins s σ H xs us Q I r h
  obtain ⟨p, ys, rfl, hq, q⟩ := h
  obtain ⟨u, rfl, rx⟩ := vals1 r
  cases rx
  have hn := line63
  rcases hq with hq | hq
  · obtain ⟨its, r', pl, hz⟩ := I.list hq
    have hlen := r'.length
    exact Calls.call_len_list pl.isList (by simp only [List.size_toArray] <;> omega) ⟨.int ys.length, H, I.tok _, ⟨s.toks + 1, by rw [List.size_toArray, hlen]⟩, q⟩
  · obtain ⟨its, r', pl, hz⟩ := I.tuple hq
    have hlen := r'.length
    exact len_tuple pl (by simp only [List.size_toArray] <;> omega) ⟨.int ys.length, H, I.tok _, ⟨s.toks + 1, by rw [List.size_toArray, hlen]⟩, q⟩
theorem call_len_str : CallR X (.builtin "len") (fun xs H Q => ∃ z, xs = [.str z] ∧ z.length ≤ sizeLine ∧ Q (.int z.length) H) := by
  intro pins s σ H xs us Q I r h
  obtain ⟨z, rfl, hz, q⟩ := h
  obtain ⟨u, rfl, t, rfl⟩ := vals1 r
  have hn := line63
  exact len_str (by omega) ⟨.int z.length, H, I.tok _, ⟨_, rfl⟩, q⟩
theorem call_tuple_of : CallR X (.type "tuple") (fun xs H Q => ∃ p ys, xs = [.ref p] ∧ ((SqL X.K H p ys ∧ ∀ l, H l = none → Q (.ref l) (upd H l (.tup ys))) ∨ (SqT X.K H p ys ∧ Q (.ref p) H))) := by
  intro pins s σ H xs us Q I r h
  obtain ⟨p, ys, rfl, h⟩ := h
  obtain ⟨u, rfl, rx⟩ := vals1 r
  cases rx
  rcases h with ⟨hq, q⟩ | ⟨hq, q⟩
  · obtain ⟨its, r', pl, hz⟩ := I.list hq
    have hlen := r'.length
    refine call_tuple_list pl.isList (fun h' kp => ?_) (by simp only [List.size_toArray] <;> omega)
    have I1 : Inv X pins σ H { s with heap := h' } := I.kept (t' := s.toks) kp
    have I2 : Inv X pins σ (upd H h'.objs.size (.tup ys)) { s with heap := h'.push { cls := .type "tuple", data := .seq its.toArray } } :=
      I1.laid (t' := s.toks) (fun b o e => Heap.get?_push_of_some _ e) (Nat.le_refl _) (show ObjOk X.prog X.w _ _ _ (.tup ys) from ⟨hz, its, r', IsTup.new _ _⟩)
    exact ⟨.ref h'.objs.size, _, I2, rfl, q _ (I1.hok.fresh (Nat.le_refl _))⟩
  · obtain ⟨its, r', pl, hz⟩ := I.tuple hq
    exact call_tuple_same pl ⟨.ref p, H, I, rfl, q⟩
def tyV (K : PySem.W.Frag) (T : String) (x : V) (H : Hp) : Prop := match x with
  | .str _ => T = "str"
  | .int _ => T = "int"
  | .ref p => (T = "list" ∧ ∃ xs, SqL K H p xs) ∨ (T = "tuple" ∧ ∃ o, K.lookup p = some o ∧ o.cls = .type "tuple" ∧ o.dict = none) ∨
      (T = "dict" ∧ ((∃ kvs, H p = some (.dK kvs)) ∨ ∃ kvs, H p = some (.dT kvs))) ∨ (T = "set" ∧ ∃ S n, H p = some (.set S n))
  | _ => False
theorem tyV_is {pins : List (Addr × Obj)} {σ : St} {H : Hp} {s : Shared} {T : String} {x : V} {v : Value} (I : Inv X pins σ H s) (r : RelV x v) (ty : tyV X.K T x H) :
    s.TypeIs v T ∧ ∀ a, v = .ref a → ∃ ob, s.heap.get? a = some ob ∧ ob.dict = none := by
  cases x with
  | str z =>
    obtain ⟨t, rfl⟩ := r
    cases (show T = "str" from ty)
    exact ⟨typeIs_str s z t, fun _ e => nomatch e⟩
  | int i =>
    obtain ⟨t, rfl⟩ := r
    cases (show T = "int" from ty)
    exact ⟨typeIs_int s i t, fun _ e => nomatch e⟩
  | ref p =>
    cases r
    rcases ty with ⟨rfl, xs, hq⟩ | ⟨rfl, o, hk, hc, hd⟩ | ⟨rfl, hk⟩ | ⟨rfl, S, n, hk⟩
    · obtain ⟨its, _, pl, _⟩ := I.list hq
      refine ⟨pl.isList.typeIs, fun a e => ?_⟩
      cases e
      obtain ⟨o, n, e, c, hd, _⟩ := pl
      exact ⟨o, e, hd⟩
    · refine ⟨⟨o, I.kIn p o hk, hc⟩, fun a e => ?_⟩
      cases e
      exact ⟨o, I.kIn _ o hk, hd⟩
    · have z : ∃ o, s.heap.get? p = some o ∧ o.ExactDict := by
        rcases hk with ⟨kvs, hk⟩ | ⟨kvs, hk⟩
        · obtain ⟨_, _, _, _, o, _, _, e, ex, _⟩ := I.hok p _ hk
          exact ⟨o, e, ex⟩
        · obtain ⟨_, _, _, _, o, _, _, e, ex, _⟩ := I.hok p _ hk
          exact ⟨o, e, ex⟩
      obtain ⟨o, e, ex⟩ := z
      refine ⟨⟨o, e, ex.1⟩, fun a e2 => ?_⟩
      cases e2
      exact ⟨o, e, ex.2.1⟩
    · obtain ⟨o, _, _, _, e, ex, _⟩ := I.hok p _ hk
      refine ⟨⟨o, e, ex.1⟩, fun a e2 => ?_⟩
      cases e2
      exact ⟨o, e, ex.2.1⟩
  | _ => exact False.elim ty
def tBM (K : PySem.W.Frag) (T : String) (r : V → List V → Hp → VK → Prop) (to : TE) (t : TA) : TE := fun σ H Q => to σ H fun x H1 => tyV K T x H1 ∧ t σ H1 fun xs H2 => r x xs H2 Q
variable {o e : Expr} {es : List Expr} {to : TE} {t : TA} {name : Str} {apos cpos : Pos} {T id : String} {r : V → List V → Hp → VK → Prop}
theorem pe_bm (pa : PlainAttrs T) (slot : Slot T name id) (hty : typeOf (.builtin id) = pure (.type "method_descriptor")) (hm : MtR X id r) (ho : PE X o to) (ha : PA X (e :: es) t)
    (hbase : attributeBase o name X.env (eval o X.env) = eval o X.env := by rfl)
    (hfew : ((backTo cpos (starEach (e :: es) X.env)).all (fun x => !x.1) && (backToKw cpos (keywordEach [] X.env)).all (fun x => x.1.isSome)
      && decide ((e :: es).length + ([] : List Keyword).length + (if ([] : List Keyword).isEmpty then 0 else 1) < 30)) = true := by rfl)
    (hline : (apos.endLine == cpos.line) = true := by rfl) (hs : starEach (e :: es) X.env = (false, eval e X.env) :: starEach es X.env := by rfl) (hplain : (backTo cpos (starEach es X.env)).any (·.1) = false := by rfl) :
    PE X (.Call (.Attribute o name apos) (e :: es) [] cpos) (tBM X.K T r to t) := by
  intro pins s σ H Q I h
  refine wpAny_Call_method_late hbase hfew hline rfl (thn (ho pins s σ H _ I h) fun v s1 ⟨x, H1, I1, r1, ty, q1⟩ => ?_)
  obtain ⟨h1, h2⟩ := tyV_is I1 r1 ty
  refine ⟨T, id, pa, slot, hty, h1, h2, ?_⟩
  have hA := ha cpos pins s1 σ H1 _ I1 q1
  rw [hs] at hA ⊢
  refine Calls.callWith_builtin (by show (false || (backTo cpos (starEach es X.env)).any (·.1)) = false; rw [hplain] <;> rfl) (Calls.evalArgs_plain ?_)
  exact thn hA fun us s2 ⟨vs, H2, I2, r2, q2⟩ => hm pins s2 σ H2 x vs v us Q I2 r1 r2 q2
/- xs.append(e), list.index on a module's tuple .. are MtR facts of 06m -/
end
end L2
namespace L2
open PySem PySem.Spec PyProof.Rows
def MtM (X : Cx) (id : String) (r : V → List V → Hp → VK → Prop) : Prop :=
  ∀ (pins : List (Addr × Obj)) (s : Shared) (σ : St) (H : Hp) (x : V) (xs : List V) (v : Value) (us : List Value) (Q : VK), Inv X pins σ H s → RelV x v → Vals xs us → r x xs H Q →
    wpAny (model X.prog X.w) X.A (call (.builtin id) (v :: us)) (EP X pins σ Q) X.xe s
theorem Vals.one : ∀ {x : V} {us : List Value}, Vals [x] us → ∃ u, us = [u] ∧ RelV x u
  | _, _, .cons r .nil => ⟨_, rfl, r⟩
theorem Vals.two : ∀ {x y : V} {us : List Value}, Vals [x, y] us → ∃ u v, us = [u, v] ∧ RelV x u ∧ RelV y v
  | _, _, _, .cons r (.cons q .nil) => ⟨_, _, rfl, r, q⟩
theorem Vals.eraseIdx : ∀ {xs : List V} {us : List Value} (i : Nat), Vals xs us → Vals (xs.eraseIdx i) (us.eraseIdx i)
  | _, _, _, .nil => .nil
  | _, _, 0, .cons _ t => t
  | _, _, i + 1, .cons r t => .cons r (Vals.eraseIdx i t)
theorem Vals.reverse {xs : List V} {us : List Value} (h : Vals xs us) : Vals xs.reverse us.reverse := by
  induction h with
  | nil => exact .nil
  | cons r t ih => rw [List.reverse_cons, List.reverse_cons]; exact Vals.append ih (.cons r .nil)
theorem len_erase {α : Type} : ∀ (l : List α) (i : Nat), (l.eraseIdx i).length ≤ l.length
  | [], _ => Nat.le_refl _
  | _ :: _, 0 => Nat.le_succ _
  | _ :: r, i + 1 => Nat.succ_le_succ (len_erase r i)
section
variable {X : Cx} {pins : List (Addr × Obj)} {σ : St} {H : Hp} {s : Shared} {l b : Addr} {xs ys zs : List V}
theorem Inv.lset {its its' : List Value} {n : Nat} {f : Array Value → Array Value} {t' : Nat} (I : Inv X pins σ H s) (hH : H l = some (.lst xs))
    (e : s.heap.get? l = some { cls := .type "list", data := .seq its.toArray n }) (hf : f its.toArray = its'.toArray) (hv : Vals ys its') (hz : ys.length ≤ sizeLine) :
    Inv X pins σ (upd H l (.lst ys)) { s with heap := s.heap.update l (Obj.mapSeq f), toks := t' } := by
  have q := PySem.IsL.update e f
  rw [hf] at q
  refine I.write (x := l) (e := l) (by rw [hH]; exact trivial) (.inl rfl) (fun b' u hb hu => (Heap.get?_update_other s.heap (Obj.mapSeq f) (Ne.symm hb)).trans hu) ⟨_, q⟩ ?_
  exact ⟨hz, its', _, hv, q⟩
theorem Inv.lnew {its : List Value} {t' : Nat} (I : Inv X pins σ H s) (hv : Vals ys its) (hz : ys.length ≤ sizeLine) :
    Inv X pins σ (upd H s.heap.objs.size (.lst ys)) { s with heap := s.heap.push { cls := .type "list", data := .seq its.toArray }, toks := t' } :=
  I.laid (fun _ _ q => Heap.get?_push_of_some _ q) (Nat.le_refl _) ⟨hz, its, 0, hv, Heap.get?_push_size _ rfl⟩
theorem Inv.fresh (I : Inv X pins σ H s) : H s.heap.objs.size = none := I.hok.fresh (Nat.le_refl _)
theorem Inv.lstM (I : Inv X pins σ H s) (hH : H l = some (.lst xs)) : xs.length ≤ sizeLine ∧ ∃ (its : List Value) (n : Nat), Vals xs its ∧ xs.length = its.length ∧ s.heap.get? l = some { cls := .type "list", data := .seq its.toArray n } := by
  obtain ⟨z, its, n, r, e⟩ := I.hok l _ hH
  exact ⟨z, its, n, r, r.length, e⟩
theorem notLongL {n : Nat} (h : n ≤ sizeLine) : Builtin.List.listTooLong n = false := by
  unfold Builtin.List.listTooLong
  exact decide_eq_false (by omega)
end
section
variable {X : Cx}
def rAppend : V → List V → Hp → VK → Prop := fun x vs H Q => ∃ l xs y, x = .ref l ∧ vs = [y] ∧ H l = some (.lst xs) ∧ xs.length < sizeLine ∧ Q .non (upd H l (.lst (xs ++ [y])))
theorem mt_append : MtM X "list.append" rAppend := by
  intro pins s σ H x vs v us Q I rx rv h
  obtain ⟨l, xs, y, rfl, rfl, hH, hz, q⟩ := h
  cases rx
  obtain ⟨u, rfl, ru⟩ := rv.one
  obtain ⟨z, its, n, r, hl, e⟩ := I.lstM hH
  refine call_meets F.slot_list_append ⟨_, e, rfl⟩ F.entry_list_append (F.args_list_append_2 _ _) (PySem.list_append l its.toArray n u (by rw [List.size_toArray]; omega)) ⟨e, ?_⟩
  refine ⟨.non, _, I.lset (its' := its ++ [u]) hH e (by simp) (r.append (.cons ru .nil)) ?_, rfl, q⟩
  rw [List.length_append, List.length_singleton]
  omega
def rExtend : V → List V → Hp → VK → Prop := fun x vs H Q => ∃ l b xs zs, x = .ref l ∧ vs = [.ref b] ∧ H l = some (.lst xs) ∧ H b = some (.lst zs) ∧ xs.length + zs.length ≤ sizeLine ∧ Q .non (upd H l (.lst (xs ++ zs)))
theorem mt_extend : MtM X "list.extend" rExtend := by
  intro pins s σ H x vs v us Q I rx rv h
  obtain ⟨l, b, xs, zs, rfl, rfl, hH, hB, hz, q⟩ := h
  cases rx
  obtain ⟨u, rfl, ru⟩ := rv.one
  cases ru
  obtain ⟨z, its, n, r, hl, e⟩ := I.lstM hH
  obtain ⟨z2, its2, n2, r2, hl2, e2⟩ := I.lstM hB
  have hsz : its.toArray.size + its2.toArray.size ≤ sizeLine := by rw [List.size_toArray, List.size_toArray]; omega
  have hlong : ¬ (!its.toArray.isEmpty && Builtin.List.listTooLong (its.toArray.size + its2.toArray.size)) = true := by
    rw [notLongL hsz, Bool.and_false]
    exact Bool.false_ne_true
  refine call_meets F.slot_list_extend ⟨_, e, rfl⟩ F.entry_list_extend (F.args_list_extend_2 _ _)
    (AutoSeq1.list_extend_list_list_0 l its.toArray n b its2.toArray n2 hlong (by rw [List.size_toArray]; omega) (by omega)) ⟨e, e2, ?_⟩
  refine ⟨.non, _, I.lset (its' := its ++ its2) hH e (by simp) (r.append r2) ?_, rfl, q⟩
  rw [List.length_append]
  omega
def rPopAt : V → List V → Hp → VK → Prop := fun x vs H Q => ∃ l xs i k y, x = .ref l ∧ vs = [.int i] ∧ H l = some (.lst xs) ∧ -(2 ^ 63) ≤ i ∧ i < 2 ^ 63 ∧ seqIndex? i xs.length = some k ∧ xs[k]? = some y ∧ Q y (upd H l (.lst (xs.eraseIdx k)))
theorem mt_popAt : MtM X "list.pop" rPopAt := by
  intro pins s σ H x vs v us Q I rx rv h
  obtain ⟨l, xs, i, k, y, rfl, rfl, hH, h1, h2, hk, hy, q⟩ := h
  cases rx
  obtain ⟨u, rfl, ru⟩ := rv.one
  obtain ⟨t, rfl⟩ := ru
  obtain ⟨z, its, n, r, hl, e⟩ := I.lstM hH
  obtain ⟨w, hw, rw'⟩ := r.get hy
  refine call_meets F.slot_list_pop ⟨_, e, rfl⟩ F.entry_list_pop (F.args_list_pop_2 _ _)
    (MeetsSeq.list_pop_at l its.toArray n i t k w (fitsIndex_both h1 h2) (by rw [List.size_toArray, ← hl]; exact hk) (by rw [← Array.getElem?_toList]; exact hw) (by rw [List.size_toArray]; omega)) ⟨e, ?_⟩
  refine ⟨y, _, I.lset (its' := its.eraseIdx k) hH e ?_ (r.eraseIdx k) ?_, rw', q⟩
  · show its.toArray.eraseIdxIfInBounds k = (its.eraseIdx k).toArray
    rw [List.eraseIdxIfInBounds_toArray]
  · have := len_erase xs k
    omega
def rCat : R2 := fun x y H Q => ∃ l b xs zs, x = .ref l ∧ y = .ref b ∧ H l = some (.lst xs) ∧ H b = some (.lst zs) ∧ xs.length + zs.length ≤ sizeLine ∧ ∀ p, H p = none → Q (.ref p) (upd H p (.lst (xs ++ zs)))
theorem op_cat : OpR X (binaryOp .Add) rCat := by
  intro pins s σ H x y v u Q I rx ry h
  obtain ⟨l, b, xs, zs, rfl, rfl, hH, hB, hz, q⟩ := h
  cases rx
  cases ry
  obtain ⟨z, its, n, r, hl, e⟩ := I.lstM hH
  obtain ⟨z2, its2, n2, r2, hl2, e2⟩ := I.lstM hB
  refine PySem.P.add_list e e2 ?_ (by rw [List.size_toArray, List.size_toArray]; omega)
  have ea : its.toArray ++ its2.toArray = (its ++ its2).toArray := by simp
  rw [ea]
  exact ⟨.ref _, _, I.lnew (t' := s.toks) (r.append r2) (by rw [List.length_append]; omega), rfl, q _ I.fresh⟩
end
section
variable {prog : Program} {w : World} {A : Around} {E : Value → Shared → Prop} {s : Shared}
end
section
variable {X : Cx}
end
end L2
namespace Att
open PySem PySem.W PySem.Calls PyProof.Rows
theorem ints_of_wellAll {P : Params} {h : Heap} : ∀ (ns : List Int) (vs : List Value), WellAll P h vs (ns.map WData.int) → IntsAre vs ns := by
  intro ns
  induction ns with
  | nil =>
    intro vs w
    rw [List.map_nil] at w
    cases w
    exact .nil
  | cons n ns ih =>
    intro vs w
    rw [List.map_cons] at w
    cases w with
    | cons a b =>
      cases a
      exact .cons _ _ (ih _ b)
theorem script_of {l : OpenLaw} {n : Nat} (hn : l.most = some n) {P : Params} {h : Heap} {args : List WData} {vals : List Value}
    (hpre : l.row.toRowW.claim.pre args = true) (hwl : WellAll P h vals args) :
    ∃ a vs ns, vals = [Value.ref a] ∧ args = [WData.list (ns.map WData.int)] ∧ h.get? a = some { cls := .type "list", data := .seq vs.toArray } ∧ IntsAre vs ns ∧ ns.length ≤ n := by
  have hsh : WShape.hasAll [] args [.list .int] = true := (pre_splitW hpre).1
  have hc : l.pre.holds [] { args := args } = true := (pre_splitW hpre).2
  obtain ⟨d, r, rfl, h1, h2⟩ := hasAllW_cons hsh
  obtain rfl := hasAllW_nil h2
  obtain ⟨xs, rfl, h3⟩ := hasW_list h1
  obtain ⟨ns, rfl⟩ := items_int h3
  have hlen : ns.length ≤ n := by
    unfold OpenLaw.pre at hc
    have h4 : (WTm.not (.lt (.lit (.int (n : Int))) (.len (.arg 0)))).holds [] { args := [.list (ns.map .int)] } = true := by
      have h4 := (holds_andW hc).1
      rw [hn] at h4
      exact h4
    have h5 := condW_of h4 (w_not (w_lt w_lit (w_len_list (w_arg rfl))))
    rw [List.length_map] at h5
    refine Nat.le_of_not_lt fun q => ?_
    have q' : (n : Int) < ((ns.length : Nat) : Int) := by omega
    first
      | (rw [decide_eq_true q'] at h5; exact absurd h5 (by decide))
      | (simp at h5; omega)
  cases hwl with
  | cons w1 w2 =>
    cases w2
    cases w1 with
    | list ho hall => exact ⟨_, _, ns, rfl, rfl, ho, ints_of_wellAll ns _ hall, hlen⟩
theorem post_true (l : OpenLaw) (args : List WData) : l.row.toRowW.claim.post args (.bool true) args = true :=
  postW_of (r := l.row.toRowW) (X := (true == true))
    (show WShape.has [] (.bool true) .bool = true by first | rfl | decide | simp [WShape.has, WShape.arms, WShape.armsAll])
    (show (WTm.eq .res (.lit (.bool true))).value [] { args := args, res := some (.bool true), after := args } = some (.bool (true == true)) from w_eq_bool (w_res rfl) w_lit) rfl
theorem attach_call {l : OpenLaw} {n : Nat} {q : Program} {loose : List Str} {XP : (Str → Option Value) → Heap → Prop} {YP : World → Heap → Prop} {d : DefRec}
    (hn : l.most = some n) (hdf : d.params.defaults = [])
    (call : ∀ (w : World) (s₀ s₁ : Shared) (mg mb : Str → Option Value) (fa : Addr) (o : Obj) (pm cd doc : Value) (a : Addr) (vs : List Value) (ns : List Int),
      Ground q loose [] XP w s₀ mg mb s₁.heap → YP w s₁.heap →
      s₁.heap.get? fa = some o → o.data = .func (docDef d.name d.params d.body d.scope pm cd doc) → s₁.heap.CodeRec cd d.name → mg d.name = some (.ref fa) →
      s₁.heap.get? a = some { cls := .type "list", data := .seq vs.toArray } → IntsAre vs ns → ns.length ≤ n → s₁.gens = #[] →
      codeAny (model l.prog w) callerA (.call (.ref fa) ⟨[.ref a], []⟩) (fun r s' => r = .ok (.ret (.bool true)) ∧ OldK s₁.heap s'.heap ∧ s'.os = s₁.os ∧ AllBare s'.gens) s₁) :
    WalkO q loose XP YP l.row.toRowW d [] (fun f vs => PySem.call f vs) := by
  intro w s₀ s₁ mg mb G Y fa o pm cd doc dV kV ho hd hcd hD hmg hg args vals as hpre hlay hrd hwl hlo
  obtain rfl : dV = .none := Dflts.none hD hdf
  obtain rfl : kV = .none := Dflts.noKw hD
  obtain ⟨a, vs, ns, rfl, rfl, hobj, hints, hlen⟩ := script_of hn hpre hwl
  refine enter_call (codeAny_mono (call w s₀ s₁ mg mb fa o pm cd doc a vs ns G Y ho (fd_plain hd) hcd hmg hobj hints hlen hg) fun r s' hq => ?_)
  obtain ⟨rfl, h2, h3, h4⟩ := hq
  exact ⟨.inl ⟨.bool true, .bool true, [], rfl, fun _ => rfl, .bool true, post_true l _, fun _ => ⟨List.Pairwise.nil, fun _ hm => (nomatch hm)⟩⟩, h2, h3, h4⟩
section
variable {prog : Program} {w : World} {A : Around} {E : Value → Shared → Prop} {s : Shared} {K : Frag}
end
end Att
namespace L2
open PySem PySem.Spec PyProof.Rows
theorem vals_ints : ∀ {vs : List Value} {ns : List Int}, IntsAre vs ns → Vals (ns.map V.int) vs
  | _, _, .nil => .nil
  | _, _, .cons n t h => .cons ⟨t, rfl⟩ (vals_ints h)
def Only (H : Hp) : Prop := ∀ b, H b = none ∨ ∃ o xs, H b = some (.frz o (.lst xs))
theorem law_call {P : Program} {w : World} {K : PySem.W.Frag} {mg mb : Str → Option Value} {CX : CXT} {k : Nat} {fa a : Addr} {fd : FuncData} {x : Str} {sp : Sp} {s₁ : Shared} {vs : List Value} {ns : List Int}
    (KX : K.In s₁.heap) (hns : s₁.heap.Ns mainGlobals mg) (hb : s₁.heap.Ns builtinsNs mb) (hbb : ∀ x : Str, x ≠ "__name__" → mb x = bootBuiltins x) (hlim : s₁.heap.NoLimit) (hg : s₁.gens = #[])
    (ha : s₁.heap.get? a = some { cls := .type "list", data := .seq vs.toArray }) (hi : IntsAre vs ns) (hl : ns.length ≤ sizeLine) (hr : Room k callerA)
    (F : ∀ base : Heap, K.In base → base.Ns mainGlobals mg → FnOk P w K mg base CX k fa fd [x] sp) (hbind : ∀ (s : Shared) (u : Value), BindsTo s fd ⟨[u], []⟩ [(x, u)])
    (hsp : ∀ H : Hp, Only H → SqL K H a (ns.map V.int) → sp [.ref a] H (fun v _ => v = .bl true) fun _ _ _ => False)
    (hCX : ∀ H e s', CX [] H s₁ (fun _ _ _ => False) e s' → False) :
    codeAny (model P w) callerA (.call (.ref fa) ⟨[.ref a], []⟩) (fun r s' => r = .ok (.ret (.bool true)) ∧ OldK s₁.heap s'.heap ∧ s'.os = s₁.os ∧ AllBare s'.gens) s₁ := by
  have rv := vals_ints hi
  have lenV := hi.length
  -- from an abstract heap in which nothing but the script may be tracked
  have core : ∀ H : Hp, Only H → SqL K H a (ns.map V.int) → HOk P w H s₁.heap → (∀ b, H b ≠ none → b = a) → (H a ≠ none → K.lookup a = none) →
      codeAny (model P w) callerA (.call (.ref fa) ⟨[.ref a], []⟩) (fun r s' => r = .ok (.ret (.bool true)) ∧ OldK s₁.heap s'.heap ∧ s'.os = s₁.os ∧ AllBare s'.gens) s₁ := by
    intro H hO hS hok hA hK
    have base_of : ∀ {b : Addr} {o : Obj}, s₁.heap.get? b = some o → H b = none → (hidT s₁.heap H).get? b = some o := fun e n => hidT_get e n
    have noA : ∀ {b : Addr} {o : Obj} {es : Array DictEntry} {ep : Nat}, s₁.heap.get? b = some o → o.data = .dict es ep → H b = none := fun {b o es ep} e d => by
      cases q : H b with
      | none => rfl
      | some u =>
        have e' : b = a := hA b (by rw [q]; simp)
        subst e'
        rw [ha] at e; cases e
        have d' : Data.seq vs.toArray _ = Data.dict es ep := d
        cases d'
    have nsK : ∀ {b : Addr} {m : Str → Option Value}, s₁.heap.Ns b m → (hidT s₁.heap H).Ns b m := fun {b m} ⟨o, es, ep, e, d, r⟩ => ⟨o, es, ep, base_of e (noA e d), d, r⟩
    have hKb : K.In (hidT s₁.heap H) := fun b o e => base_of (KX b o e) (by
      cases q : H b with
      | none => rfl
      | some u =>
        have e' : b = a := hA b (by rw [q]; simp)
        subst e'
        rw [hK (by rw [q]; simp)] at e; cases e)
    have hM : Mod K mg (hidT s₁.heap H) := ⟨hKb, nsK hns, ⟨mb, nsK hb, hbb⟩, let ⟨mc, h1, h2⟩ := hlim; ⟨mc, nsK h1, h2⟩⟩
    have e0 : Env0 P w K mg (hidT s₁.heap H) callerA [] s₁ H := ⟨rfl, hM, fun b o e => of_hidT e, Nat.le_of_eq (hidT_size _ _), trivial, fun b hb => absurd (show b ∈ ([] : List Addr) from hb) (by simp), hok, .of_eq hg⟩
    refine codeAny_mono ((F _ hKb (nsK hns)).run callerA [] s₁ H ⟨[.ref a], []⟩ [.ref a] [.ref a] _ _ hr e0 (hbind s₁ (.ref a)) (.cons rfl .nil) (hsp H hO hS)) fun r s' h => ?_
    cases r with
    | error e => exact (hCX H e s' h).elim
    | ok fl =>
      cases fl with
      | next => exact False.elim h
      | brk => exact False.elim h
      | cont => exact False.elim h
      | ret u =>
        obtain ⟨v, H', os, bare, un, hok', r', q⟩ := h
        have q' : v = .bl true := q
        subst q'
        obtain rfl : u = Value.bool true := r'
        refine ⟨rfl, OldK.of_keep fun b o e => ?_, os, bare⟩
        cases q : H b with
        | none => exact un.keep b o e q (by intro z; exact absurd (show b ∈ ([] : List Addr) from z) (by simp)) (by simp)
        | some u =>
          rcases hO b with z | ⟨ob, xs, z⟩
          · rw [q] at z; cases z
          · have z2 := un.frzs b ob _ z
            obtain ⟨e1, _⟩ := hok b _ z
            obtain ⟨e2, _⟩ := hok' b _ z2
            rw [e] at e1; cases e1
            exact e2
  cases hk : K.lookup a with
  | some o =>
    -- the script is one of the module's own objects
    have e := KX a o hk
    rw [ha] at e
    cases e
    refine core (fun _ => none) (fun _ => .inl rfl) (.inr ⟨_, vs.toArray, _, hk, rfl, rfl, rfl, by rw [List.size_toArray, lenV]; exact hl, by simpa using rv⟩) (fun b u z => by have z' : (none : Option HO) = some u := z; cases z') (fun b z => absurd rfl z) fun z => absurd rfl z
  | none =>
    refine core (fun b => if b = a then some (.frz { cls := .type "list", data := .seq vs.toArray } (.lst (ns.map V.int))) else none) (fun b => ?_) (.inl (.inr ⟨{ cls := .type "list", data := .seq vs.toArray }, if_pos rfl⟩)) (fun b u z => ?_) (fun b z => ?_) fun _ => hk
    · by_cases hb : b = a
      · exact .inr ⟨_, _, if_pos hb⟩
      · exact .inl (if_neg hb)
    · by_cases hb : b = a
      · have z' := (if_pos hb).symm.trans z
        cases z'
        subst hb
        exact ⟨ha, by rw [List.length_map]; exact hl, vs, _, rv, ha⟩
      · have z' := (if_neg hb).symm.trans z
        cases z'
    · by_cases hb : b = a
      · exact hb
      · exact absurd (if_neg hb) z
end L2
namespace L2
open PySem PySem.Spec PyProof.Rows
theorem walk_of {l : PySem.W.OpenLaw} {n k : Nat} {q : Program} {loose : List Str} {XP : (Str → Option Value) → Heap → Prop} {YP : World → Heap → Prop} {d : DefRec} {K : Params → PySem.W.Frag} {CX : World → CXT} {sp : World → Sp} {x : Str}
    (hn : l.most = some n) (hn2 : n ≤ sizeLine) (hdf : d.params.defaults = []) (hr : Room k callerA)
    (hY : ∀ (w : World) (h : Heap), YP w h → (K w.params).In h)
    (F : ∀ (w : World) (mg : Str → Option Value) (fa : Addr) (h : Heap), (K w.params).In h → h.Ns mainGlobals mg → mg d.name = some (.ref fa) →
      ∃ fd : FuncData, (∀ (s : Shared) (u : Value), BindsTo s fd ⟨[u], []⟩ [(x, u)]) ∧
        ∀ base : Heap, (K w.params).In base → base.Ns mainGlobals mg → FnOk l.prog w (K w.params) mg base (CX w) k fa fd [x] (sp w))
    (hsp : ∀ (w : World) (H : Hp) (a : Addr) (ns : List Int), ns.length ≤ n → Only H → SqL (K w.params) H a (ns.map V.int) → sp w [.ref a] H (fun v _ => v = .bl true) fun _ _ _ => False)
    (hCX : ∀ (w : World) (H : Hp) (s : Shared) (e : Value) (s' : Shared), CX w [] H s (fun _ _ _ => False) e s' → False) :
    PySem.W.WalkO q loose XP YP l.row.toRowW d [] (fun f vs => PySem.call f vs) := by
  refine Att.attach_call hn hdf fun w s₀ s₁ mg mb fa o pm cd doc a vs ns G Y ho hd hcd hmg hobj hints hlen hg => ?_
  have KX := hY w _ Y
  obtain ⟨fd, hb, hF⟩ := F w mg fa _ KX G.T.g hmg
  exact law_call KX G.T.g G.T.b G.T.builtins G.T.nolimit hg hobj hints (Nat.le_trans hlen hn2) hr hF hb (fun H hO hS => hsp w H a ns hlen hO hS) fun H e s' => hCX w H s₁ e s'
end L2
/- THE LAST THEOREM (shape; LID, My.* are yours):
   My.Adr: a structure of the addresses that your layer names (classes, functions); My.Txt K t: a structure (Prop) of the equations over K;
   My.txt_mk : {K} {implicit addresses ..} (e1 : nsIn K mainGlobals "law" = some (some (.ref f))) (e2 : K.lookup f = some ⟨oc, od, .func (fnOf "law" "law" params body scope dV kV doc pm an cdv ct), sl⟩) (e3 : codeIn K cdv "law" = true) .. : ∃ t, My.Txt K t
set_option maxRecDepth 100000 in
set_option maxHeartbeats 0 in
theorem PySem.Challenge.cw_LID_holds : PySem.Challenge.rw_LID.Holds := by
  w_on; o_law; k_head; (case hw => w_witness2)
  k_fill
  refine L2.walk_of (l := PySem.Challenge.rw_LID) (n := 63) (k := 40) (x := "script") (CX := fun w => ..) (sp := fun _ => My.sp_law) rfl (by decide) rfl ⟨rfl, by decide, by decide⟩ (fun w h Y => PySem.W.kIn_of Y) ?F ?S ?C
  case F =>
    intro w mg fa h KX G hmg
    have T : ∃ t, My.Txt (L2.KOf KX) t := by
      dsimp only [L2.KOf]                          -- K must stand as «<heap const> w.params» for k_is
      refine' My.txt_mk ?e1 ?e2 ?e3 ..
      (case e1 => PySem.W.k_is)                    -- in the order: a name -> its address -> its object -> its parts
      (case e2 => PySem.W.k_is)
      ..
    obtain ⟨t, T⟩ := T
    have e0 := hmg.symm.trans (PySem.W.mg_of KX G T.law)
    cases e0                                       -- fa is the law's own address
    exact ⟨_, fun s u => .of_eq rfl, fun base kb nb => My.law_fn T kb nb⟩     -- if «.of_eq rfl» comes too early: refine' ⟨_, ?b, fun base kb nb => My.law_fn T kb nb⟩; exact fun s u => .of_eq rfl
  case S => exact fun w H a ns hl hO hS => ..
  case C => exact ..
(the tactic k_is has no namespace: write k_is) -/
namespace L2
open PySem PySem.Spec PyProof.Rows
def inClass (s : Stmt) (j : Nat) : Stmt := match s with
  | .ClassDef _ _ _ body _ _ _ _ _ _ _ => body.getD j (.Pass ⟨0, 0, 0, 0⟩)
  | _ => .Pass ⟨0, 0, 0, 0⟩
def defArgs (s : Stmt) : Arguments := match s with
  | .FunctionDef _ a _ _ _ _ _ _ _ _ => a
  | _ => { posonlyargs := [], args := [], vararg := none, kwonlyargs := [], kw_defaults := [], kwarg := none, defaults := [] }
def defBody (s : Stmt) : List Stmt := match s with
  | .FunctionDef _ _ b _ _ _ _ _ _ _ => b
  | _ => []
def defScope (s : Stmt) : Scope := match s with
  | .FunctionDef _ _ _ _ _ _ sc _ _ _ => sc
  | _ => { kind := .function, names := [], isGenerator := false, isCoroutine := false }
abbrev CX0 : CXT := fun _ _ _ _ _ _ => False
abbrev E0 : XK := fun _ _ _ => False
theorem pass0 {X : Cx} : Passes CX0 X E0 := fun _ _ _ _ _ _ _ h => h.elim
structure Fun (K : PySem.W.Frag) (x qual : Str) (st : Stmt) (f : Addr) (fd : FuncData) : Prop where
  ex : ∃ (oc : Value) (od : Option Addr) (kV doc pm : Value) (an : Option Addr) (cdv ct : Value) (osl : Array (Option Value)),
    fd = PySem.W.fnOf x qual (defArgs st) (defBody st) (defScope st) .none kV doc pm an cdv ct ∧ K.lookup f = some ⟨oc, od, .func fd, osl⟩ ∧ PySem.W.codeIn K cdv qual = true
  kp : PySem.W.keepIn K (.ref f) = true
section
variable {P : Program} {w : World} {K : PySem.W.Frag} {mg : Str → Option Value} {base : Heap}
theorem Fun.ok {x qual : Str} {st : Stmt} {f : Addr} {fd : FuncData} {N ps : List Str} {k : Nat} {sp : Sp} (F : Fun K x qual st f fd) (S : FnScope N ps (defScope st)) (len : ∀ vs H Q E, sp vs H Q E → vs.length = ps.length)
    (hbody : ∀ (cdv : Value) (A : Around) (outer : List Env) (s : Shared) (H : Hp) (vs : List V) (Q : VK) (E : XK), Room k (A.deeper (envOfC qual (defScope st) s.heap.objs.size f cdv)) → sp vs H Q E →
      ∃ t, PSs (cxOf CX0 P w K mg base N qual (defScope st) f cdv A outer s H E).nox (defBody st) t ∧ t { nx := fun _ H' => Q .non H', rt := Q } (start N vs) H) : FnOk P w K mg base CX0 (k + 1) f fd ps sp := by
  obtain ⟨oc, od, kV, doc, pm, an, cdv, ct, osl, rfl, lk, hcd⟩ := F.ex
  refine fn_of lk hcd S len fun A outer s H vs Q E hr hsp => ?_
  obtain ⟨t, h, q⟩ := hbody cdv A outer s H vs Q E hr hsp
  exact ⟨t, h.nox, q⟩
theorem Fun.binds {x qual : Str} {st : Stmt} {f : Addr} {fd : FuncData} {ps : List Str} (F : Fun K x qual st f fd)
    (h : ∀ (kV doc pm : Value) (an : Option Addr) (cdv ct : Value) (us : List Value), us.length = ps.length → bindArgs (PySem.W.fnOf x qual (defArgs st) (defBody st) (defScope st) .none kV doc pm an cdv ct) ⟨us, []⟩ = pure (ps.zip us)) : Binds K fd ps [] := by
  obtain ⟨oc, od, kV, doc, pm, an, cdv, ct, osl, rfl, lk, hcd⟩ := F.ex
  exact .all (h kV doc pm an cdv ct)
theorem fun_mk {x qual : Str} {st : Stmt} {f : Addr} {oc : Value} {od an : Option Addr} {osl : Array (Option Value)} {kV doc pm cdv ct : Value} (l : K.lookup f = some ⟨oc, od, .func (PySem.W.fnOf x qual (defArgs st) (defBody st) (defScope st) .none kV doc pm an cdv ct), osl⟩)
    (c : PySem.W.codeIn K cdv qual = true) (k : PySem.W.keepIn K (.ref f) = true) : Fun K x qual st f (PySem.W.fnOf x qual (defArgs st) (defBody st) (defScope st) .none kV doc pm an cdv ct) := ⟨⟨oc, od, kV, doc, pm, an, cdv, ct, osl, rfl, l, c⟩, k⟩
end
section
variable {X : Cx}
end
theorem iteF {A B : Prop} (h : B) : if false = true then A else B := by
  rw [if_neg Bool.false_ne_true]
  exact h
theorem iteT {A B : Prop} (h : A) : if true = true then A else B := by
  rw [if_pos rfl]
  exact h
theorem ite2 {c A B : Prop} [Decidable c] (h1 : c → A) (h2 : ¬ c → B) : if c then A else B := by
  by_cases h : c
  · rw [if_pos h]
    exact h1 h
  · rw [if_neg h]
    exact h2 h
def Same (H H' : Hp) : Prop := ∀ b o, H b = some o → H' b = some o
theorem Same.refl (H : Hp) : Same H H := fun _ _ h => h
theorem Same.trans {H H1 H2 : Hp} (a : Same H H1) (b : Same H1 H2) : Same H H2 := fun c o h => b c o (a c o h)
theorem Same.free {H H' : Hp} (e : Same H H') {l : Addr} (h : H' l = Option.none) : H l = Option.none := by
  cases q : H l with
  | none => rfl
  | some o =>
    rw [e l o q] at h
    cases h
theorem Same.seq {K : PySem.W.Frag} {H H' : Hp} {a : Addr} {xs : List V} (e : Same H H') (h : SqL K H a xs) : SqL K H' a xs := by
  rcases h with (h | ⟨o, h⟩) | h
  · exact .inl (.inl (e _ _ h))
  · exact .inl (.inr ⟨o, e _ _ h⟩)
  · exact .inr h
end L2
set_option Elab.async false
set_option linter.all false
set_option maxRecDepth 100000
namespace L2
open PySem PySem.Spec PyProof.Rows
def clStep (env : Env) (cs : List (Str × Addr)) (x : Str × NameKind) : List (Str × Addr) :=
  if x.2 == .free then (match env.cells.lookup x.1 with | some a => (x.1, a) :: cs | none => cs) else cs
def clOf (scope : Scope) (env : Env) : List (Str × Addr) := scope.names.foldl (clStep env) []
theorem clFor_go {env : Env} (f : Str × NameKind → List (Str × Addr) → Sem (ForInStep (List (Str × Addr))))
    (hf : ∀ n k r, f (n, k) r = if (k == NameKind.free) = true then (do let a ← cellOf env n; pure (ForInStep.yield ((n, a) :: r))) else pure (ForInStep.yield r)) :
    ∀ (names : List (Str × NameKind)) (cs : List (Str × Addr)), (∀ x ∈ names, x.2 = .free → ∃ a, env.cells.lookup x.1 = some a) → forIn names cs f = pure (names.foldl (clStep env) cs)
  | [], cs, _ => rfl
  | (n, k) :: r, cs, h => by
    rw [List.forIn_cons, List.foldl_cons, hf]
    have hr := fun y hy => h y (List.mem_cons_of_mem _ hy)
    by_cases hk : k = .free
    · subst hk
      obtain ⟨a, ha⟩ := h (n, NameKind.free) List.mem_cons_self rfl
      have e1 : cellOf env n = pure a := by unfold cellOf; rw [ha]
      have e2 : clStep env cs (n, NameKind.free) = (n, a) :: cs := by unfold clStep; rw [ha]; rfl
      rw [e2, ← clFor_go f hf r _ hr, e1]
      rfl
    · have hb : (k == NameKind.free) = false := by simpa using hk
      have e2 : clStep env cs (n, k) = cs := by unfold clStep; rw [hb]; rfl
      rw [e2, ← clFor_go f hf r _ hr, hb]
      rfl
theorem clFor_eq {scope : Scope} {env : Env} (h : ∀ x ∈ scope.names, x.2 = .free → ∃ a, env.cells.lookup x.1 = some a) : closureFor scope env = pure (clOf scope env) := by
  simp only [closureFor]
  rw [clFor_go (env := env) _ (fun n k r => by cases hkc : k == NameKind.free <;> simp [hkc]) scope.names [] h]
  rfl
theorem clFold_of {env : Env} {x : Str} {c : Addr} : ∀ (names : List (Str × NameKind)) (cs : List (Str × Addr)), (names.foldl (clStep env) cs).lookup x = some c → env.cells.lookup x = some c ∨ cs.lookup x = some c
  | [], cs, h => .inr h
  | y :: r, cs, h => by
    rw [List.foldl_cons] at h
    rcases clFold_of r _ h with z | z
    · exact .inl z
    · unfold clStep at z
      split at z
      · split at z
        · rename_i a ha
          rw [List.lookup_cons] at z
          cases hb : x == y.1 with
          | true =>
            rw [hb] at z
            rw [beq_iff_eq.mp hb]
            exact .inl (ha.trans z)
          | false =>
            rw [hb] at z
            exact .inr z
        · exact .inr z
      · exact .inr z
theorem clOf_of {scope : Scope} {env : Env} {x : Str} {c : Addr} (h : (clOf scope env).lookup x = some c) : env.cells.lookup x = some c :=
  (clFold_of scope.names [] h).elim id fun z => by cases z
theorem clFold_has {env : Env} {x : Str} {a : Addr} (ha : env.cells.lookup x = some a) : ∀ (names : List (Str × NameKind)) (cs : List (Str × Addr)), ((x, NameKind.free) ∈ names ∨ cs.lookup x = some a) → (∀ c, cs.lookup x = some c → c = a) → (names.foldl (clStep env) cs).lookup x = some a
  | [], cs, h, _ => h.elim (fun z => by cases z) id
  | y :: r, cs, h, hc => by
    rw [List.foldl_cons]
    by_cases hy : y.2 = .free ∧ y.1 = x
    · have e2 : clStep env cs y = (x, a) :: cs := by unfold clStep; rw [hy.2, ha, hy.1]; rfl
      rw [e2]
      have el : ((x, a) :: cs).lookup x = some a := by rw [List.lookup_cons]; simp
      exact clFold_has ha r _ (.inr el) fun c z => by rw [el] at z; exact (Option.some.inj z).symm
    · have same : (clStep env cs y).lookup x = cs.lookup x := by
        unfold clStep
        split
        · rename_i hk
          split
          · have hne : (x == y.1) = false := by
              cases hb : x == y.1 with
              | false => rfl
              | true => exact absurd ⟨by simpa using hk, (beq_iff_eq.mp hb).symm⟩ hy
            rw [List.lookup_cons, hne]
          · rfl
        · rfl
      refine clFold_has ha r _ ?_ (by rw [same]; exact hc)
      rw [same]
      rcases h with z | z
      · rcases List.mem_cons.mp z with e | z
        · exact absurd ⟨by rw [← e], by rw [← e]⟩ hy
        · exact .inl z
      · exact .inr z
theorem clOf_has {scope : Scope} {env : Env} {x : Str} {a : Addr} (ha : env.cells.lookup x = some a) (hx : (x, NameKind.free) ∈ scope.names) : (clOf scope env).lookup x = some a :=
  clFold_has ha _ _ (.inl hx) fun c z => by cases z
theorem cf_lookup {x : Str} {c : Addr} : ∀ (names : List (Str × NameKind)) (n : Nat) (acc : List (Str × Addr)), (cellsFrom n names acc).lookup x = some c → (n ≤ c ∧ (x, NameKind.cell) ∈ names) ∨ acc.lookup x = some c
  | [], _, _, h => .inr h
  | (y, k) :: r, n, acc, h => by
    unfold cellsFrom at h
    split at h
    · rename_i hk
      have hk' : k = .cell := by simpa using hk
      rcases cf_lookup r _ _ h with ⟨z1, z2⟩ | z
      · exact .inl ⟨by omega, List.mem_cons_of_mem _ z2⟩
      · rw [List.lookup_cons] at z
        cases hb : x == y with
        | true =>
          rw [hb] at z
          cases z
          exact .inl ⟨Nat.le_refl _, by rw [hk', beq_iff_eq.mp hb]; exact List.mem_cons_self⟩
        | false =>
          rw [hb] at z
          exact .inr z
    · rcases cf_lookup r _ _ h with ⟨z1, z2⟩ | z
      · exact .inl ⟨z1, List.mem_cons_of_mem _ z2⟩
      · exact .inr z
theorem cf_inj : ∀ (names : List (Str × NameKind)) (n : Nat) (acc : List (Str × Addr)), (∀ x c, acc.lookup x = some c → c < n) → (∀ x y c, acc.lookup x = some c → acc.lookup y = some c → x = y) →
    ∀ x y c, (cellsFrom n names acc).lookup x = some c → (cellsFrom n names acc).lookup y = some c → x = y
  | [], _, _, _, h2 => h2
  | (z, k) :: r, n, acc, h1, h2 => by
    unfold cellsFrom
    split
    · have lk : ∀ x c, List.lookup x ((z, n) :: acc) = some c → (x = z ∧ c = n) ∨ acc.lookup x = some c := fun x c e => by
        rw [List.lookup_cons] at e
        cases hb : x == z with
        | true => rw [hb] at e; cases e; exact .inl ⟨beq_iff_eq.mp hb, rfl⟩
        | false => rw [hb] at e; exact .inr e
      refine cf_inj r (n + 1) _ (fun x c e => ?_) fun x y c e e' => ?_
      · rcases lk x c e with ⟨_, q⟩ | q
        · rw [q]; exact Nat.lt_succ_self _
        · exact Nat.lt_succ_of_lt (h1 x c q)
      · rcases lk x c e with ⟨q1, q2⟩ | q <;> rcases lk y c e' with ⟨p1, p2⟩ | p
        · rw [q1, p1]
        · exact absurd (h1 y c p) (by rw [q2]; exact Nat.lt_irrefl _)
        · exact absurd (h1 x c q) (by rw [p2]; exact Nat.lt_irrefl _)
        · exact h2 x y c q p
    · exact cf_inj r n acc h1 h2
theorem cf_has {x : Str} : ∀ (names : List (Str × NameKind)) (n : Nat) (acc : List (Str × Addr)), ((x, NameKind.cell) ∈ names ∨ ∃ c, acc.lookup x = some c) → ∃ c, (cellsFrom n names acc).lookup x = some c
  | [], _, _, h => h.elim (fun z => by cases z) id
  | (y, k) :: r, n, acc, h => by
    unfold cellsFrom
    split
    · rename_i hk
      refine cf_has r _ _ ?_
      by_cases hx : x = y
      · exact .inr ⟨n, by rw [List.lookup_cons, hx]; simp⟩
      · have hb : (x == y) = false := beq_eq_false_iff_ne.mpr hx
        rcases h with z | ⟨c, z⟩
        · rcases List.mem_cons.mp z with e | z
          · exact absurd (Prod.mk.inj e).1 hx
          · exact .inl z
        · exact .inr ⟨c, by rw [List.lookup_cons, hb]; exact z⟩
    · rename_i hk
      refine cf_has r _ _ ?_
      rcases h with z | z
      · rcases List.mem_cons.mp z with e | z
        · exact absurd (by rw [← (Prod.mk.inj e).2]; rfl) hk
        · exact .inl z
      · exact .inr z
theorem pc_cell {x : Str} {c : Addr} : ∀ (names : List (Str × NameKind)) (h : Heap) (acc : List (Str × Addr)), (∀ x c, acc.lookup x = some c → ∃ v, h.IsCell c v) → (cellsFrom h.objs.size names acc).lookup x = some c → ∃ v, (pushCells h names).IsCell c v
  | [], h, acc, ha, e => ha x c e
  | (y, k) :: r, h, acc, ha, e => by
    unfold cellsFrom at e
    unfold pushCells
    split at e
    · rename_i hk
      rw [if_pos hk]
      rw [show h.objs.size + 1 = (h.push { cls := .type "cell", data := .cell none }).objs.size from (Heap.size_push ..).symm] at e
      refine pc_cell r _ _ (fun x' c' e' => ?_) e
      rw [List.lookup_cons] at e'
      cases hb : x' == y with
      | true => rw [hb] at e'; cases e'; exact ⟨_, _, Heap.get?_push_size _ rfl, rfl⟩
      | false =>
        rw [hb] at e'
        obtain ⟨v, z⟩ := ha x' c' e'
        exact ⟨v, z.keeps fun b o q => Heap.get?_push_of_some _ q⟩
    · rename_i hk
      rw [if_neg hk]
      exact pc_cell r _ _ ha e
section
variable {M : Model} {A : Around} {E : Value → Shared → Prop} {s : Shared}
theorem wp_newEnvA {scope : Scope} {globals : Addr} {closure : List (Str × Addr)} {qual : Str} {outer : Env} {Q : Env → Shared → Prop}
    (hQ : Q (newEnv scope s.heap.objs.size globals (cellsFrom (s.heap.objs.size + 1) scope.names closure) qual none .none (some outer) builtinsNs) { s with heap := pushCells (s.heap.push { cls := .type "dict", data := .dict #[] }) scope.names }) :
    wpAny M A (newFunctionEnv scope globals closure [] qual none .none (some outer)) Q E s := by
  simp only [newFunctionEnv, Option.isSome_some, if_true]
  refine wpAny_bind (wpAny_alloc ?_)
  refine wpAny_bind (wpAny_layCells _ (fun name kind cells => by cases hkc : kind == NameKind.cell <;> simp [hkc]) _ _ _ _ ?_)
  rw [show ({ s with heap := s.heap.push { cls := .type "dict", data := .dict #[] } } : Shared).heap.objs.size = s.heap.objs.size + 1 from Heap.size_push ..]
  exact wpAny_bind (wpAny_pure (wpAny_pure hQ))
end
section
variable {prog : Program} {w : World} {A : Around} {s : Shared}
abbrev NoX : Value → Shared → Prop := fun _ _ => False
theorem toE {α : Type} {M : Model} {A : Around} {t : Sem α} {Q Q' : α → Shared → Prop} {E : Value → Shared → Prop} {s : Shared} (h : wpAny M A t Q NoX s) (hQ : ∀ a s, Q a s → Q' a s) : wpAny M A t Q' E s :=
  wpAny_mono h hQ fun _ _ z => z.elim
theorem compLoop_gen {elt target iter : Expr} {ifs : List Expr} {scope : Scope} {pos : Pos} {it acc : Value} {env : Env} {R : Result → Shared → Prop} (I : Nat → Shared → Prop)
    (turn : ∀ n s, I n s → wpAny (model prog w) A (pyNext it) (fun r s₁ => match r with
      | none => R (.ok .next) s₁
      | some v => wpAny (model prog w) A (letOwnedTupleGo target it v) (fun _ s₂ => wpAny (model prog w) A (assign target env v) (fun _ s₃ =>
          wpAny (model prog w) A (forIn ifs true fun c r => if r = true then do let ok ← isTrue c env (eval c env); pure (ForInStep.yield ok) else pure (ForInStep.yield r)) (fun ok s₄ =>
            if ok = true then wpAny (model prog w) A (eval elt env) (fun x s₅ => wpAny (model prog w) A (call (.builtin "list.append") [acc, x]) (fun _ s₆ => ∃ m, m < n ∧ I m s₆) NoX s₅) NoX s₄
            else ∃ m, m < n ∧ I m s₄) NoX s₃) NoX s₂) NoX s₁) NoX s)
    (n : Nat) (h : I n s) : codeAny (model prog w) A (.compLoop (.ListComp elt [⟨target, iter, ifs, 0⟩] scope pos) 0 it acc env) R s := by
  refine codeAny_loop rfl I (fun n s hI => ?_) n h
  show wpAny _ A ((compTurn (.ListComp elt [⟨target, iter, ifs, 0⟩] scope pos) 0 it acc env).onRaise (fun x => do noteFrame x env; theTreesLotGoes x)) _ _ s
  refine wpAny_noted ?_
  rw [compTurn_list]
  refine wpAny_bind (wpAny_standAt (wpAny_bind (toE (turn n s hI) fun r s₁ h₁ => ?_)))
  cases r with
  | none => exact wpAny_pure h₁
  | some v =>
    refine wpAny_bind (toE h₁ fun _ s₂ h₂ => wpAny_bind (toE h₂ fun _ s₃ h₃ => wpAny_bind (toE h₃ fun ok s₄ h₄ => ?_)))
    cases ok with
    | false => exact wpAny_pure ⟨rfl, h₄⟩
    | true => exact wpAny_bind (wpAny_bind (toE h₄ fun x s₅ h₅ => wpAny_bind (toE h₅ fun _ s₆ h₆ => wpAny_pure (wpAny_pure ⟨rfl, h₆⟩))))
end
def Cx.blk (X : Cx) (N : List Str) (scope : Scope) (cells : List (Str × Addr)) (C : Addr) (s : Shared) (H : Hp) (ex : List Addr) : Cx :=
  { X with N := N, s₀ := s, H₀ := H, env := compEnvC scope cells C X.env, outer := X.stack, stack := X.stack, ex := ex, fn := fun x => scope.names.any fun y => y.1 == x && y.2 == .cell, pn := [], xe := NoX }
def blkSt (src : List (Option Nat)) (σ : St) : St := src.map fun o => o.bind fun j => (σ[j]?).join
def capOk (sc out : Scope) : Bool := sc.names.all fun x => x.2 != .free || (out.names.lookup x.1 == some .cell || out.names.lookup x.1 == some .free)
def blkOk : List Str → List (Option Nat) → List Str → Scope → Bool
  | [], [], _, _ => true
  | x :: N, o :: src, M, sc => (match o with | none => true | some j => M[j]? == some x && sc.names.lookup x == some .free) && blkOk N src M sc
  | _, _, _, _ => false
def scOk (sc : Scope) : Bool := sc.kind == .function && sc.names.all fun x => sc.names.lookup x.1 == some x.2
theorem blkOk_len : ∀ {N : List Str} {src : List (Option Nat)} {M : List Str} {sc : Scope}, blkOk N src M sc = true → src.length = N.length
  | [], [], _, _, _ => rfl
  | _ :: N, _ :: src, M, sc, h => by
    unfold blkOk at h
    rw [Bool.and_eq_true] at h
    rw [List.length_cons, List.length_cons, blkOk_len h.2]
  | [], _ :: _, _, _, h => by simp [blkOk] at h
  | _ :: _, [], _, _, h => by simp [blkOk] at h
theorem blkOk_get : ∀ {N : List Str} {src : List (Option Nat)} {M : List Str} {sc : Scope} {i : Nat} {x : Str} {j : Nat}, blkOk N src M sc = true → N[i]? = some x → src[i]? = some (some j) → M[j]? = some x ∧ sc.names.lookup x = some .free
  | [], [], _, _, _, _, _, _, h, _ => by simp at h
  | y :: N, o :: src, M, sc, 0, x, j, h, h1, h2 => by
    unfold blkOk at h
    rw [Bool.and_eq_true] at h
    simp at h1 h2
    subst h1 h2
    have q := h.1
    rw [Bool.and_eq_true] at q
    exact ⟨beq_iff_eq.mp q.1, beq_iff_eq.mp q.2⟩
  | y :: N, o :: src, M, sc, i + 1, x, j, h, h1, h2 => by
    unfold blkOk at h
    rw [Bool.and_eq_true] at h
    exact blkOk_get h.2 (by simpa using h1) (by simpa using h2)
  | [], _ :: _, _, _, _, _, _, h, _, _ => by simp [blkOk] at h
  | _ :: _, [], _, _, _, _, _, h, _, _ => by simp [blkOk] at h
theorem blkSt_get {src : List (Option Nat)} {σ : St} {i : Nat} {v : V} (h : (blkSt src σ)[i]? = some (some v)) : ∃ j, src[i]? = some (some j) ∧ σ[j]? = some (some v) := by
  unfold blkSt at h
  rw [List.getElem?_map] at h
  cases e : src[i]? with
  | none => rw [e] at h; cases h
  | some o =>
    rw [e] at h
    cases o with
    | none => cases h
    | some j =>
      refine ⟨j, rfl, ?_⟩
      have h' : (σ[j]?).join = some v := Option.some.inj h
      cases q : σ[j]? with
      | none => rw [q] at h'; cases h'
      | some z => rw [q] at h'; rw [show z = some v from h']
theorem lookup_relabel {env : Env} : ∀ {names : List (Str × NameKind)} {x : Str} {k : NameKind},
    (names.map fun (n, k) => if (k == NameKind.free && env.scope.kind == .function && env.kindOf n == some .cell) then (n, NameKind.cell) else (n, k)).lookup x = some k →
    ∃ k', names.lookup x = some k' ∧ (k = k' ∨ (k' = .free ∧ k = .cell))
  | [], _, _, h => by cases h
  | (n, k0) :: r, x, k, h => by
    rw [List.map_cons, List.lookup_cons] at h
    rw [List.lookup_cons]
    dsimp only at h
    split at h
    · rename_i h0
      have hb : x == n := by
        split at h0 <;> exact h0
      rw [hb]
      refine ⟨k0, rfl, ?_⟩
      split at h
      · rename_i hc
        cases h
        simp only [Bool.and_eq_true] at hc
        exact .inr ⟨by simpa using hc.1.1, rfl⟩
      · cases h
        exact .inl rfl
    · rename_i h0
      have hb : (x == n) = false := by
        split at h0 <;> exact h0
      rw [hb]
      exact lookup_relabel h
theorem lookup_relabel_to {env : Env} : ∀ {names : List (Str × NameKind)} {x : Str} {k' : NameKind}, names.lookup x = some k' →
    ∃ k, (names.map fun (n, k) => if (k == NameKind.free && env.scope.kind == .function && env.kindOf n == some .cell) then (n, NameKind.cell) else (n, k)).lookup x = some k ∧ (k = k' ∨ (k' = .free ∧ k = .cell))
  | [], _, _, h => by cases h
  | (n, k0) :: r, x, k', h => by
    rw [List.lookup_cons] at h
    rw [List.map_cons]
    by_cases hc : (k0 == NameKind.free && env.scope.kind == .function && env.kindOf n == some .cell) = true
    · simp only [hc, if_true]
      rw [List.lookup_cons]
      cases hb : x == n with
      | true =>
        rw [hb] at h
        cases h
        simp only [Bool.and_eq_true] at hc
        exact ⟨_, rfl, .inr ⟨by simpa using hc.1.1, rfl⟩⟩
      | false => rw [hb] at h; exact lookup_relabel_to h
    · simp only [if_neg hc]
      rw [List.lookup_cons]
      cases hb : x == n with
      | true => rw [hb] at h; cases h; exact ⟨_, rfl, .inl rfl⟩
      | false => rw [hb] at h; exact lookup_relabel_to h
def PIf (X : Cx) (ifs : List Expr) (t : TT) : Prop :=
  ∀ (pins : List (Addr × Obj)) (s : Shared) (σ : St) (H : Hp) (Q : Bool → Hp → Prop), Inv X pins σ H s → t σ H Q →
    wpAny (model X.prog X.w) X.A (forIn ifs true fun c r => if r = true then do let ok ← isTrue c X.env (eval c X.env); pure (ForInStep.yield ok) else pure (ForInStep.yield r)) (TP X pins σ Q) X.xe s
def tTrue : TT := fun _ H Q => Q true H
theorem pif_nil {X : Cx} : PIf X [] tTrue := fun pins s σ H Q I h => wpAny_tests_nil ⟨H, I, h⟩
def Sub (σ σ' : St) : Prop := σ.length = σ'.length ∧ ∀ (i : Nat) (v : V), σ[i]? = some (some v) → σ'[i]? = some (some v)
def CompW (src : List (Option Nat)) (g : TG) (tt : TT) (te : TE) (σ : St) (Q : VK) (J : It) (H1 : Hp) : Prop :=
  ∃ W : Nat → Nat → List V → Hp → Prop, (∃ m, W 0 m [] H1) ∧ ∀ i m ys H, W i m ys H →
    (J.stop i H ∧ ys.length ≤ sizeLine ∧ ∀ p, H p = none → Q (.ref p) (upd H p (.lst ys))) ∨
    (J.go i H ∧ ys.length < sizeLine ∧ ∃ N : List V → Hp → Prop, (∀ zs H', N zs H' → ∃ m', m' < m ∧ W (i + 1) m' zs H') ∧ ∀ x H', J.yld i H x H' → g x (blkSt src σ) H' fun σ2 H2 => Sub (blkSt src σ) σ2 ∧ tt σ2 H2 fun b H3 =>
      if b = true then te σ2 H3 fun v H4 => N (ys ++ [v]) H4 else N ys H3)
def tComp (src : List (Option Nat)) (wi : TI) (g : TG) (tt : TT) (te : TE) : TE := fun σ H Q => wi σ H (CompW src g tt te σ Q)
section
variable {X : Cx} {pins : List (Addr × Obj)} {σ : St} {H : Hp} {s : Shared}
theorem Inv.block {N : List Str} {src : List (Option Nat)} {scope : Scope} {fp : List Addr} (I : Inv X pins σ H s) (hf : ∀ b ∈ fp, FpOk X pins H b) (ho : ∀ b ∈ fp, ∃ o, s.heap.get? b = some o)
    (hcap : capOk scope X.env.scope = true) (hblk : blkOk N src X.N scope = true) (hsc : scOk scope = true) {lo : Obj} :
    Inv (X.blk N scope (cellsFrom (s.heap.objs.size + 2) scope.names (clOf scope X.env)) (s.heap.objs.size + 1) s H fp) [] (blkSt src σ) H
      { s with heap := pushCells ((s.heap.push lo).push { cls := .type "dict", data := .dict #[] }) scope.names } := by
  unfold scOk at hsc
  rw [Bool.and_eq_true] at hsc
  have hkind : scope.kind = .function := by simpa using hsc.1
  have hnd : ∀ x ∈ scope.names, scope.names.lookup x.1 = some x.2 := fun x hx => by simpa using List.all_eq_true.mp hsc.2 x hx
  have hfree : ∀ x ∈ scope.names, x.2 = .free → X.env.kindOf x.1 = some .cell ∨ X.env.kindOf x.1 = some .free := fun x hx hk => by
    have q := List.all_eq_true.mp hcap x hx
    rw [hk] at q
    have q' : (X.env.scope.names.lookup x.1 == some .cell || X.env.scope.names.lookup x.1 == some .free) = true := by simpa using q
    rw [Bool.or_eq_true] at q'
    exact q'.imp (fun z => beq_iff_eq.mp z) fun z => beq_iff_eq.mp z
  have keep : ∀ b o, s.heap.get? b = some o → (pushCells ((s.heap.push lo).push { cls := .type "dict", data := .dict #[] }) scope.names).get? b = some o := fun b o e =>
    pushCells_keeps _ _ _ _ (Heap.get?_push_of_some _ (Heap.get?_push_of_some _ e))
  have clc : ∀ x c, (clOf scope X.env).lookup x = some c → c < s.heap.objs.size := fun x c e => by
    obtain ⟨v, z⟩ := I.cell x c (clOf_of e)
    exact z.lt
  have cases' : ∀ x c, (cellsFrom (s.heap.objs.size + 2) scope.names (clOf scope X.env)).lookup x = some c → (s.heap.objs.size + 2 ≤ c ∧ (x, NameKind.cell) ∈ scope.names) ∨ X.env.cells.lookup x = some c := fun x c e =>
    (cf_lookup _ _ _ e).imp id clOf_of
  have kof : ∀ x k, (compEnvC scope (cellsFrom (s.heap.objs.size + 2) scope.names (clOf scope X.env)) (s.heap.objs.size + 1) X.env).kindOf x = some k → ∃ k', scope.names.lookup x = some k' ∧ (k = k' ∨ (k' = .free ∧ k = .cell)) := fun x k e =>
    lookup_relabel (env := X.env) e
  have mem : ∀ {x k}, scope.names.lookup x = some k → (x, k) ∈ scope.names := fun e => mem_of_lookup e
  refine ⟨⟨I.ok.mod, ?_, I.ok.glob, I.ok.blt, ?_, ?_, ?_, ?_, I.ok.hd, I.ok.frames, .inl rfl, ?_, I.bs, Nat.le_trans I.ok.bsz I.sz, ?_, ?_, I.stack, I.stkFree⟩, rfl, I.bare, Un.kept keep, ?_, ?_, ?_, ?_, ?_, I.hok.kept keep, ?_⟩
  · exact hkind
  · exact Nat.le_succ _
  · -- inj
    refine cf_inj _ _ _ (fun x c e => ?_) fun x y c e e' => I.ok.inj x y c (clOf_of e) (clOf_of e')
    exact Nat.lt_of_lt_of_le (clc x c e) (Nat.le_add_right _ 2)
  · -- has
    intro x hx
    refine cf_has _ _ _ ?_
    have hk : ∃ k', scope.names.lookup x = some k' ∧ (k' = .cell ∨ k' = .free) := by
      rcases hx with hx | hx
      · obtain ⟨k', e, z⟩ := kof x _ hx
        exact ⟨k', e, z.elim (fun z => .inl z.symm) fun z => .inr z.1⟩
      · obtain ⟨k', e, z⟩ := kof x _ hx
        exact ⟨k', e, z.elim (fun z => .inr z.symm) fun z => by cases z.2⟩
    obtain ⟨k', e, rfl | rfl⟩ := hk
    · exact .inl (mem e)
    · obtain ⟨a, ha⟩ := I.ok.has x (hfree _ (mem e) rfl)
      exact .inr ⟨a, clOf_has ha (mem e)⟩
  · -- cab
    intro x c hx e
    rcases cases' x c e with z | z
    · exact Nat.le_trans (Nat.le_add_right _ 2) z.1
    · -- x is the block's own cell, so it is not in the closure's part
      exfalso
      obtain ⟨y, hy, hyx⟩ := List.any_eq_true.mp hx
      rw [Bool.and_eq_true] at hyx
      have e1 : y.1 = x := beq_iff_eq.mp hyx.1
      have e2 : y.2 = .cell := by simpa using hyx.2
      have l1 : scope.names.lookup x = some .cell := by rw [← e1, ← e2]; exact hnd y hy
      rcases cf_lookup _ _ _ e with q | q
      · obtain ⟨v, z'⟩ := I.cell x c z
        exact absurd (Nat.lt_of_lt_of_le z'.lt (Nat.le_trans (Nat.le_add_right _ 2) q.1)) (Nat.lt_irrefl _)
      · -- the closure holds free names alone
        have fr : ∀ (names : List (Str × NameKind)) (cs : List (Str × Addr)), (names.foldl (clStep X.env) cs).lookup x = some c → (x, NameKind.free) ∈ names ∨ cs.lookup x = some c := by
          intro names
          induction names with
          | nil => intro cs h; exact .inr h
          | cons n r ih =>
            intro cs h
            rw [List.foldl_cons] at h
            rcases ih _ h with w | w
            · exact .inl (List.mem_cons_of_mem _ w)
            · unfold clStep at w
              split at w
              · rename_i hk
                split at w
                · rw [List.lookup_cons] at w
                  cases hb : x == n.1 with
                  | true =>
                    have : n = (x, NameKind.free) := Prod.ext (beq_iff_eq.mp hb).symm (by simpa using hk)
                    exact .inl (by rw [this]; exact List.mem_cons_self)
                  | false => rw [hb] at w; exact .inr w
                · exact .inr w
              · exact .inr w
        rcases fr _ _ q with w | w
        · have := hnd _ w
          rw [l1] at this
          cases this
        · cases w
  · -- exf
    intro b hb
    obtain ⟨o, e⟩ := ho b hb
    have lt := Heap.lt_size e
    refine ⟨Nat.ne_of_lt (Nat.lt_succ_of_lt lt), fun x c hc => ?_⟩
    rcases cases' x c hc with z | z
    · exact Nat.ne_of_gt (Nat.lt_of_lt_of_le lt (Nat.le_trans (Nat.le_add_right _ 2) z.1))
    · exact (hf b hb).2.2.2.2.1 x c z
  · -- noex
    intro b o e hb
    rcases (hf b hb).2.2.2.1 with z | z
    · exact I.ok.noex b o e z
    · exact absurd (Nat.lt_of_lt_of_le (Heap.lt_size (I.ok.bs b o e).1) z) (Nat.lt_irrefl _)
  · -- exfs
    intro b hb z
    rcases List.mem_cons.mp (I.stkSub b z) with q | q
    · exact (hf b hb).2.1 q
    · exact (hf b hb).2.2.1 q
  · -- loc
    refine ⟨fun _ => none, ?_, fun i x v e1 e2 e3 => ?_⟩
    · have := (Heap.Ns.new (s.heap.push lo) (.type "dict")).keeps (pushCells_keeps scope.names _)
      rw [Heap.size_push] at this
      exact this
    · obtain ⟨j, e4, e5⟩ := blkSt_get e2
      obtain ⟨e6, e7⟩ := blkOk_get hblk e1 e4
      obtain ⟨m, _, hl⟩ := I.loc
      have hk := hfree _ (mem e7) rfl
      have hv : Vis X.env.scope x := .inr (hk.imp id id)
      obtain ⟨u, r, l⟩ := hl j x v e6 e5 hv
      refine ⟨u, r, .inr ⟨?_, ?_⟩⟩
      · obtain ⟨k, q, z⟩ := lookup_relabel_to (env := X.env) e7
        rcases z with z | z
        · exact .inr (by rw [← z]; exact q)
        · exact .inl (by rw [← z.2]; exact q)
      · rcases l with l | ⟨_, c, hc, z⟩
        · exfalso
          rcases hk with hk | hk <;> rw [l.1] at hk <;> cases hk
        · refine ⟨c, ?_, z.keeps keep⟩
          have own : ¬ (x, NameKind.cell) ∈ scope.names := fun w => by
            have := hnd _ w
            rw [e7] at this
            cases this
          obtain ⟨c', q⟩ := cf_has (x := x) scope.names (s.heap.objs.size + 2) (clOf scope X.env) (.inr ⟨c, clOf_has hc (mem e7)⟩)
          rcases cases' x c' q with w | w
          · exact absurd w.2 own
          · rw [hc] at w
            cases w
            exact q
  · -- cell
    intro x c e
    have e' : (cellsFrom ((s.heap.push lo).push { cls := .type "dict", data := .dict #[] }).objs.size scope.names (clOf scope X.env)).lookup x = some c := by
      rw [Heap.size_push, Heap.size_push]; exact e
    refine pc_cell _ _ _ (fun x' c' q => ?_) e'
    obtain ⟨v, z⟩ := I.cell x' c' (clOf_of q)
    exact ⟨v, z.keeps fun b o q => Heap.get?_push_of_some _ (Heap.get?_push_of_some _ q)⟩
  · exact I.hok.fresh (Nat.le_succ _)
  · intro x c e
    rcases cases' x c e with z | z
    · exact I.hok.fresh (Nat.le_trans (Nat.le_add_right _ 2) z.1)
    · exact I.freeC x c z
  · intro p hp
    cases hp
  · show (blkSt src σ).length = N.length
    unfold blkSt
    rw [List.length_map]
    exact blkOk_len hblk
theorem Inv.unblock {N : List Str} {scope : Scope} {cells : List (Str × Addr)} {C acc : Addr} {fp : List Addr} {pins' : List (Addr × Obj)} {σ' : St} {H' : Hp} {s' : Shared} {h' : Heap} {ys : List V} {us : List Value} {n : Nat}
    (I : Inv X pins σ H s) (hf : ∀ b ∈ fp, FpOk X pins H b) (hC : s.heap.objs.size ≤ C) (ha : s.heap.objs.size ≤ acc) (hne : acc ≠ C) (J : Inv (X.blk N scope cells C s H fp) pins' σ' H' s')
    (hn : H' acc = none) (hl : s'.heap.get? acc = some { cls := .type "list", data := .seq us.toArray n }) (hv : Vals ys us) (hz : ys.length ≤ sizeLine) (hb : Heap.SameBut C s'.heap h') :
    Inv X pins σ (upd H' acc (.lst ys)) { s' with heap := h' } := by
  have base : Un (frs X.stack) fp H H' s.heap s'.heap := J.base
  have kp : ∀ b o, b ≠ C → s'.heap.get? b = some o → h'.get? b = some o := fun b o q e => hb.extBut b o q e
  have old : ∀ b o, s.heap.get? b = some o → b ≠ C ∧ b ≠ acc := fun b o e => by
    have := Heap.lt_size e
    exact ⟨Nat.ne_of_lt (Nat.lt_of_lt_of_le this hC), Nat.ne_of_lt (Nat.lt_of_lt_of_le this ha)⟩
  have frC : H' C = none := J.free
  have hacc : H acc = none := I.hok.fresh ha
  have hokh : HOk X.prog X.w H' s'.heap := J.hok
  have ok' : HOk X.prog X.w (upd H' acc (.lst ys)) h' := by
    intro b o e
    by_cases hba : b = acc
    · subst hba
      rw [upd_same] at e
      cases e
      exact ⟨hz, us, n, hv, kp _ _ hne hl⟩
    · rw [upd_ne hba] at e
      refine (hokh b o e).stay (fun c u hc q => kp c u ?_ q) (fun c q => ?_) fun c xs q => ?_
      · rintro rfl
        rcases hc with rfl | hc
        · rw [frC] at e; cases e
        · rw [frC] at hc; cases hc
      · rw [upd_ne (by rintro rfl; rw [hn] at q; cases q)]; exact q
      · rw [upd_ne (by rintro rfl; rw [hn] at q; cases q)]; exact q
  have neA : ∀ b u, H b = some u → b ≠ acc := fun b u e => by rintro rfl; rw [hacc] at e; cases e
  refine I.call' (s' := { s' with heap := h' }) (ch := fp) (J.os) ⟨fun b o e q r t => ?_, fun b o e q r t => ?_, fun b o e q t => ?_, fun b o e t => ?_, fun b xs e => ?_, fun b o u e => ?_, fun b ps e => ?_⟩ ok' J.bare fun b hb => ?_
  · exact kp b o (old b o e).1 (base.keep b o e q r t)
  · obtain ⟨sl, z⟩ := base.slot b o e q r t
    exact ⟨sl, kp b _ (old b o e).1 z⟩
  · rw [upd_ne (old b o e).2]
    exact base.free b o e q t
  · obtain ⟨o', z⟩ := base.there b o e t
    exact ⟨o', kp b _ (old b o e).1 z⟩
  · rw [upd_ne (neA b _ e)]
    exact base.tups b xs e
  · rw [upd_ne (neA b _ e)]
    exact base.frzs b o u e
  · rw [upd_ne (neA b _ e)]
    exact base.tbls b ps e
  · obtain ⟨_, h1, _, h3, h4, h5⟩ := hf b hb
    exact ⟨h3, h1, h4, h5⟩
set_option maxHeartbeats 4000000 in
theorem comp_core {tg iter elt : Expr} {ifs : List Expr} {scope : Scope} {pos : Pos} {N : List Str} {src : List (Option Nat)} {wi : TI} {g : TG} {tt : TT} {te : TE} {Q : VK} {RR : Value → Addr → Result → Shared → Prop} (hc : X.calm = true) (hi : PI X tg iter wi)
    (hcap : capOk scope X.env.scope = true) (hblk : blkOk N src X.N scope = true) (hsc : scOk scope = true)
    (hg : ∀ cells C s H ex, PG (X.blk N scope cells C s H ex) tg g) (ht : ∀ cells C s H ex, PIf (X.blk N scope cells C s H ex) ifs tt) (he : ∀ cells C s H ex, PE (X.blk N scope cells C s H ex) elt te)
    (I : Inv X pins σ H s) (h : tComp src wi g tt te σ H Q)
    (hend : ∀ (s2 s4 : Shared) (H2 H4 : Hp) (fp : List Addr) (cells : List (Str × Addr)) (pl : List (Addr × Obj)) (σ4 : St) (ys : List V) (us : List Value) (k : Nat), Inv X pins σ H2 s2 → (∀ b ∈ fp, FpOk X pins H2 b) →
      Inv (X.blk N scope cells (s2.heap.objs.size + 1) s2 H2 fp) pl σ4 H4 s4 → H4 s2.heap.objs.size = none → s4.heap.get? s2.heap.objs.size = some { cls := .type "list", data := .seq us.toArray k } → Vals ys us → ys.length ≤ sizeLine →
      Q (.ref s2.heap.objs.size) (upd H4 s2.heap.objs.size (.lst ys)) → RR (.ref s2.heap.objs.size) (s2.heap.objs.size + 1) (.ok .next) s4) :
    wpAny (model X.prog X.w) X.A (eval iter X.env) (fun x s₁ => wpAny (model X.prog X.w) X.A (pyIter x) (fun it s₂ => wpAny (model X.prog X.w) X.A (newList []) (fun acc s₃ =>
      wpAny (model X.prog X.w) X.A (newFunctionEnv scope X.env.globals (clOf scope X.env) [] X.env.qual none .none (some X.env)) (fun cenv s₄ =>
        codeAny (model X.prog X.w) X.A (.compStart (.ListComp elt [⟨tg, iter, ifs, 0⟩] scope pos) 0 it acc { cenv with scope := relabel scope X.env }) (RR acc cenv.locals) s₄) X.xe s₃) X.xe s₂) X.xe s₁) X.xe s := by
  refine thn (hi pins s σ H _ I h) fun v s1 h1 => thn h1 fun itv s2 h2 => ?_
  obtain ⟨it, fp, tn, J, H2, e, I2, T, st2, f2, W, ⟨m0, w0⟩, turn⟩ := h2
  subst e
  have ho2 : ∀ b ∈ fp, ∃ o, s2.heap.get? b = some o := fun b hb => (T.obj _ _ st2 b hb).imp fun _ q => q.1
  refine wpAny_newObj_type (wp_newEnvA ?_)
  have hB := I2.block (lo := { cls := .type "list", dict := none, data := .seq ([] : List Value).toArray }) f2 ho2 hcap hblk hsc
  rw [show ({ s2 with heap := s2.heap.push { cls := .type "list", dict := none, data := .seq ([] : List Value).toArray } } : Shared).heap.objs.size = s2.heap.objs.size + 1 from Heap.size_push ..]
  generalize hcells : cellsFrom (s2.heap.objs.size + 1 + 1) scope.names (clOf scope X.env) = cells at hB ⊢
  generalize hheap : pushCells ((s2.heap.push { cls := .type "list", dict := none, data := .seq ([] : List Value).toArray }).push { cls := .type "dict", data := .dict #[] }) scope.names = h4 at hB ⊢
  have keep4 : ∀ b o, s2.heap.get? b = some o → h4.get? b = some o := fun b o q => by
    rw [← hheap]; exact pushCells_keeps _ _ _ _ (Heap.get?_push_of_some _ (Heap.get?_push_of_some _ q))
  have acc4 : h4.get? s2.heap.objs.size = some { cls := .type "list", data := .seq ([] : List Value).toArray 0 } := by
    rw [← hheap]; exact pushCells_keeps _ _ _ _ (Heap.get?_push_of_some _ (Heap.get?_push_size _ rfl))
  have st4 : tn 0 h4 := T.keep _ _ _ st2 fun b _ o q => keep4 b o q
  -- the block's context
  generalize hXc : X.blk N scope cells (s2.heap.objs.size + 1) s2 H2 fp = Xc at hB
  have eA : Xc.A = X.A := by rw [← hXc]; rfl
  have eP : Xc.prog = X.prog := by rw [← hXc]; rfl
  have ew : Xc.w = X.w := by rw [← hXc]; rfl
  have eK : Xc.K = X.K := by rw [← hXc]; rfl
  have ec : Xc.calm = true := by rw [← hXc]; exact hc
  have ee : Xc.env = compEnvC scope cells (s2.heap.objs.size + 1) X.env := by rw [← hXc]; rfl
  have ex : Xc.ex = fp := by rw [← hXc]; rfl
  have epn : Xc.pn = [] := by rw [← hXc]; rfl
  have es0 : Xc.s₀ = s2 := by rw [← hXc]; rfl
  have exe : Xc.xe = NoX := by rw [← hXc]; rfl
  have eL : Xc.env.locals = s2.heap.objs.size + 1 := by rw [ee]; rfl
  have efs : Xc.fs = frs X.stack := by rw [← hXc]; rfl
  have okB := hB.ok
  have cne : ∀ x c, Xc.env.cells.lookup x = some c → c ≠ s2.heap.objs.size := fun x c q => by
    rw [ee] at q
    have q' : cells.lookup x = some c := q
    rw [← hcells] at q'
    rcases cf_lookup _ _ _ q' with z | z
    · exact Nat.ne_of_gt (Nat.lt_of_lt_of_le (Nat.lt_succ_self _) (Nat.le_trans (Nat.le_succ _) z.1))
    · obtain ⟨v, z'⟩ := I2.cell x c (clOf_of z)
      exact Nat.ne_of_lt z'.lt
  have fpne : ∀ b ∈ fp, b ≠ s2.heap.objs.size := fun b hb => by
    obtain ⟨o, q⟩ := ho2 b hb
    exact Nat.ne_of_lt (Heap.lt_size q)
  have accfs : s2.heap.objs.size ∉ Xc.fs := by
    rw [efs]
    intro z
    rcases List.mem_cons.mp (I2.stkSub _ z) with q | q
    · exact absurd I2.lt (by rw [← q]; exact Nat.lt_irrefl _)
    · exact I2.nofs (Nat.le_refl _) q
  -- what may be said of the iterator's objects there
  have stat : ∀ {H' : Hp} {pl : List (Addr × Obj)}, (∀ b ∈ fp, H' b = none) → (∀ p ∈ pl, p.1 = s2.heap.objs.size) → ∀ b ∈ fp, FpOk Xc pl H' b := fun {H' pl} hn hp b hb => by
    obtain ⟨x1, x2⟩ := okB.exf b (by rw [ex]; exact hb)
    refine ⟨hn b hb, x1, okB.exfs b (by rw [ex]; exact hb), .inl (by rw [ex]; exact hb), x2, fun p hp' => ?_⟩
    rw [epn, List.nil_append] at hp'
    rw [hp p hp']
    exact (fpne b hb).symm
  have main : ∀ s5 : Shared, s5 = { s2 with heap := h4 } → codeAny (model X.prog X.w) X.A (.compLoop (.ListComp elt [⟨tg, iter, ifs, 0⟩] scope pos) 0 (.ref it) (.ref s2.heap.objs.size) Xc.env)
      (RR (.ref s2.heap.objs.size) (s2.heap.objs.size + 1)) s5 := by
    rintro s5 rfl
    refine compLoop_gen (fun n s' => ∃ i H' ys us k, Inv Xc [] (blkSt src σ) H' s' ∧ tn i s'.heap ∧ (∀ b ∈ fp, H' b = none) ∧ H' s2.heap.objs.size = none ∧
      s'.heap.get? s2.heap.objs.size = some { cls := .type "list", data := .seq (us : List Value).toArray k } ∧ Vals ys us ∧ W i n ys H') ?_ m0
      ⟨0, H2, [], [], 0, hB, st4, fun b hb => (f2 b hb).1, I2.hok.fresh (Nat.le_refl _), acc4, .nil, w0⟩
    rintro n s3 ⟨i, H3, ys, us, k, I3, st3, fr3, na3, ac3, r3, w3⟩
    rcases turn i n ys H3 w3 with ⟨stop, hz, qn⟩ | ⟨go, hz, Nn, hN, step⟩
    · have d := T.done Xc eP ew eK ec i [] s3 (blkSt src σ) H3 NoX I3 (stat fr3 (fun _ z => by cases z)) st3 stop
      rw [eA] at d
      -- the accumulator stays through the last pyNext: pin it
      have I3' : Inv Xc [(s2.heap.objs.size, { cls := .type "list", data := .seq us.toArray k })] (blkSt src σ) H3 s3 := I3.pins_of fun p hp => by
        rw [List.mem_singleton.mp hp]
        exact ⟨ac3, na3, by rw [eL]; exact Nat.ne_of_lt (Nat.lt_succ_self _), accfs, fun v z => by cases z⟩
      have d := T.done Xc eP ew eK ec i _ s3 (blkSt src σ) H3 NoX I3' (stat fr3 (fun p z => by rw [List.mem_singleton.mp z])) st3 stop
      rw [eA] at d
      refine thn d fun r s4 ⟨hr, I4⟩ => ?_
      subst hr
      have ac4 := (I4.pin (s2.heap.objs.size, { cls := .type "list", data := .seq us.toArray k }) (List.mem_append_right _ List.mem_cons_self)).1
      rw [← hXc] at I4
      exact hend s2 s4 H2 H3 fp cells _ _ ys us k I2 f2 I4 na3 ac4 r3 hz (qn _ na3)
    · have I3' : Inv Xc [(s2.heap.objs.size, { cls := .type "list", data := .seq us.toArray k })] (blkSt src σ) H3 s3 := I3.pins_of fun p hp => by
        rw [List.mem_singleton.mp hp]
        exact ⟨ac3, na3, by rw [eL]; exact Nat.ne_of_lt (Nat.lt_succ_self _), accfs, fun v z => by cases z⟩
      have d := T.item Xc eP ew eK ec i _ s3 (blkSt src σ) H3 NoX I3' (stat fr3 (fun p z => by rw [List.mem_singleton.mp z])) st3 go
      rw [eA] at d
      refine thn d fun r s4 ⟨u, hr, h4'⟩ => ?_
      subst hr
      refine thn h4' fun _ s5 ⟨x, H5, I5, r5, y5, st5, fr5⟩ => ?_
      have I5' := I5.pinned (stat fr5 (fun p z => by rw [List.mem_singleton.mp z])) (T.obj _ _ st5)
      have hgX : PG Xc tg g := by rw [← hXc]; exact hg _ _ _ _ _
      have htX : PIf Xc ifs tt := by rw [← hXc]; exact ht _ _ _ _ _
      have heX : PE Xc elt te := by rw [← hXc]; exact he _ _ _ _ _
      have a1 := hgX _ s5 _ H5 x u _ I5' r5 (step x H5 y5)
      rw [eP, ew, eA, exe] at a1
      refine thn a1 fun _ s6 ⟨σ6, H6, I6, sb, q6⟩ => ?_
      have a2 := htX _ s6 σ6 H6 _ I6 q6
      rw [eP, ew, eA, exe] at a2
      refine thn a2 fun ok s7 ⟨H7, I7, q7⟩ => ?_
      -- the way back to the head of the loop
      have back : ∀ {H8 : Hp} {s8 : Shared} {pl : List (Addr × Obj)}, Inv Xc ([(s2.heap.objs.size, { cls := .type "list", data := .seq us.toArray k })] ++ pinsAt fp s5.heap) σ6 H8 s8 →
          Inv Xc [] (blkSt src σ) H8 s8 ∧ tn (i + 1) s8.heap ∧ (∀ b ∈ fp, H8 b = none) ∧ H8 s2.heap.objs.size = none ∧ s8.heap.get? s2.heap.objs.size = some { cls := .type "list", data := .seq us.toArray k } := fun {H8 s8 pl} I8 => by
        have p0 := I8.pin (s2.heap.objs.size, { cls := .type "list", data := .seq us.toArray k }) (List.mem_append_right _ (List.mem_append_left _ List.mem_cons_self))
        refine ⟨(I8.pins_of (pins' := []) fun p hp => by cases hp).weak sb.1 sb.2, T.keep _ _ _ st5 fun b hb o e => (I8.pin (b, o) (List.mem_append_right _ (List.mem_append_right _ (mem_pinsAt hb e)))).1, fun b hb => ?_, p0.2.1, p0.1⟩
        obtain ⟨o, e, _⟩ := T.obj _ _ st5 b hb
        exact (I8.pin (b, o) (List.mem_append_right _ (List.mem_append_right _ (mem_pinsAt hb e)))).2.1
      cases ok with
      | false =>
        obtain ⟨m', hm, w7⟩ := hN _ _ q7
        obtain ⟨b1, b2, b3, b4, b5⟩ := back (pl := []) I7
        exact ⟨m', hm, i + 1, H7, ys, us, k, b1, b2, b3, b4, b5, r3, w7⟩
      | true =>
        have a3 := heX _ s7 σ6 H7 _ I7 q7
        rw [eP, ew, eA, exe] at a3
        refine thn a3 fun y s8 ⟨vy, H8, I8, ry, n8⟩ => ?_
        obtain ⟨m', hm, w8⟩ := hN _ _ n8
        obtain ⟨b1, b2, b3, b4, b5⟩ := back (pl := []) I8
        refine call_meets F.slot_list_append ⟨_, b5, rfl⟩ F.entry_list_append (F.args_list_append_2 _ _) (PySem.list_append s2.heap.objs.size us.toArray k y (by rw [List.size_toArray, ← r3.length]; omega)) ⟨b5, ?_⟩
        have q := PySem.IsL.update b5 (fun xs => xs.push y)
        rw [show us.toArray.push y = (us ++ [y]).toArray by simp] at q
        have nb : ∀ b o, b ≠ s2.heap.objs.size → s8.heap.get? b = some o → (s8.heap.update s2.heap.objs.size (Obj.mapSeq fun xs => xs.push y)).get? b = some o := fun b o hb e =>
          (Heap.get?_update_other s8.heap _ (Ne.symm hb)).trans e
        refine ⟨m', hm, i + 1, H8, ys ++ [vy], us ++ [y], _, ?_, ?_, b3, b4, q, r3.append (.cons ry .nil), w8⟩
        · exact b1.turned nb b4 (by rw [eL]; exact Nat.ne_of_lt (Nat.lt_succ_self _)) (.inr (by rw [es0]; exact Nat.le_refl _)) cne fun p hp => by rw [epn] at hp; cases hp
        · exact T.keep _ _ _ b2 fun b hb o e => nb b o (fpne b hb) e
  have main' := main _ rfl
  rw [ee] at main'
  exact codeAny_compStart_list main' (T.self _ 0 _ _ _ st4 main')
theorem scOk_kind {scope : Scope} (hsc : scOk scope = true) : scope.kind = .function ∧ ∀ x ∈ scope.names, scope.names.lookup x.1 = some x.2 := by
  unfold scOk at hsc
  rw [Bool.and_eq_true] at hsc
  exact ⟨by simpa using hsc.1, fun x hx => by simpa using List.all_eq_true.mp hsc.2 x hx⟩
theorem Inv.clos {scope : Scope} (I : Inv X pins σ H s) (hcap : capOk scope X.env.scope = true) : closureFor scope X.env = pure (clOf scope X.env) := clFor_eq fun x hx hk => by
  have q := List.all_eq_true.mp hcap x hx
  rw [hk] at q
  have q' : (X.env.scope.names.lookup x.1 == some .cell || X.env.scope.names.lookup x.1 == some .free) = true := by simpa using q
  rw [Bool.or_eq_true] at q'
  exact I.ok.has x.1 (q'.imp (fun z => beq_iff_eq.mp z) fun z => beq_iff_eq.mp z)
theorem pe_comp {tg iter elt : Expr} {ifs : List Expr} {scope : Scope} {pos : Pos} {N : List Str} {src : List (Option Nat)} {wi : TI} {g : TG} {tt : TT} {te : TE} (hc : X.calm = true) (hi : PI X tg iter wi)
    (hcap : capOk scope X.env.scope = true) (hblk : blkOk N src X.N scope = true) (hsc : scOk scope = true)
    (hg : ∀ cells C s H ex, PG (X.blk N scope cells C s H ex) tg g) (ht : ∀ cells C s H ex, PIf (X.blk N scope cells C s H ex) ifs tt) (he : ∀ cells C s H ex, PE (X.blk N scope cells C s H ex) elt te)
    (hs : ∀ x, foldedSetIterable iter X.env x = pure x := by intro _; rfl) : PE X (.ListComp elt [⟨tg, iter, ifs, 0⟩] scope pos) (tComp src wi g tt te) := by
  intro pins s σ H Q I h
  obtain ⟨hkind, hnd⟩ := scOk_kind hsc
  rw [eval_ListComp]
  refine wpAny_comprehension_free (use := none) rfl hs (I.clos hcap) hkind (fun x hx hk => by rw [← hk]; exact hnd x hx) (comp_core (RR := compPost (model X.prog X.w) X.A X.xe none (EP X pins σ Q)) hc hi hcap hblk hsc hg ht he I h ?_)
  intro s2 s4 H2 H4 fp cells pl σ4 ys us k I2 f2 I4 na4 ac4 r4 hz q
  obtain ⟨m, hns, _⟩ := I4.loc
  exact ⟨m, hns, fun h' hb => ⟨.ref s2.heap.objs.size, _, Inv.unblock I2 f2 (Nat.le_succ _) (Nat.le_refl _) (Nat.ne_of_lt (Nat.lt_succ_self _)) I4 na4 ac4 r4 hz hb, rfl, q⟩⟩
theorem ps_setC {i : Nat} {y : Str} {py spos : Pos} {tg iter elt : Expr} {ifs : List Expr} {scope : Scope} {pos : Pos} {N : List Str} {src : List (Option Nat)} {wi : TI} {g : TG} {tt : TT} {te : TE}
    (hN : X.N.Nodup) (hy : X.N[i]? = some y) (hx : Loc X.env.scope y)
    (hc : X.calm = true) (hi : PI X tg iter wi) (hcap : capOk scope X.env.scope = true) (hblk : blkOk N src X.N scope = true) (hsc : scOk scope = true)
    (hg : ∀ cells C s H ex, PG (X.blk N scope cells C s H ex) tg g) (ht : ∀ cells C s H ex, PIf (X.blk N scope cells C s H ex) ifs tt) (hel : ∀ cells C s H ex, PE (X.blk N scope cells C s H ex) elt te)
    (hsw : swapsWith (.ListComp elt [⟨tg, iter, ifs, 0⟩] scope pos) (some (.Name y py)) spos.line X.env = pure true := by rfl) (hs : ∀ x, foldedSetIterable iter X.env x = pure x := by intro _; rfl)
    (hf : X.fn y = true ∨ X.env.scope.names.lookup y = some .local := by first | exact .inl rfl | exact .inr rfl | assumption) :
    PS X (.Assign [.Name y py] (.ListComp elt [⟨tg, iter, ifs, 0⟩] scope pos) spos) (tAsg (tComp src wi g tt te) (gName i)) := by
  intro pins s σ H D I h
  obtain ⟨hkind, hnd⟩ := scOk_kind hsc
  rw [exec_Assign_Name_used _ _ _ _ hsw]
  refine wpAny_bind (wpAny_standAt (wpAny_bind ?_))
  show wpAny _ X.A (do let _ ← comprehension (.ListComp elt [⟨tg, iter, ifs, 0⟩] scope pos) scope X.env _ (newList []) false (eval iter X.env) (some (assign (.Name y py) X.env))) _ _ s
  refine wpAny_bind (wpAny_mono (wpAny_comprehension_free (use := some (assign (.Name y py) X.env)) (Q := fun _ s' => SP X pins D .next s') rfl hs (I.clos hcap) hkind (fun x hx hk => by rw [← hk]; exact hnd x hx)
    (comp_core (RR := compPost (model X.prog X.w) X.A X.xe (some (assign (.Name y py) X.env)) (fun _ s' => SP X pins D .next s')) hc hi hcap hblk hsc hg ht hel I h ?_)) (fun _ s' hq => wpAny_pure (wpAny_pure hq)) fun _ _ e => e)
  intro s2 s4 H2 H4 fp cells pl σ4 ys us k I2 f2 I4 na4 ac4 r4 hz q
  obtain ⟨m, hns, _⟩ := I4.loc
  have hns' : s4.heap.Ns (s2.heap.objs.size + 1) m := hns
  have frC : H4 (s2.heap.objs.size + 1) = none := I4.free
  have J := Inv.unblock I2 f2 (Nat.le_succ _) (Nat.le_refl _) (Nat.ne_of_lt (Nat.lt_succ_self _)) I4 na4 ac4 r4 hz (Heap.SameBut.refl _ _)
  have neL : s2.heap.objs.size + 1 ≠ X.env.locals := Nat.ne_of_gt (Nat.lt_succ_of_lt I2.lt)
  have neC : ∀ x c, X.env.cells.lookup x = some c → c ≠ s2.heap.objs.size + 1 := fun x c e => by
    obtain ⟨v, z⟩ := I2.cell x c e
    exact Nat.ne_of_lt (Nat.lt_succ_of_lt z.lt)
  show wpAny _ X.A (assign (.Name y py) X.env (.ref s2.heap.objs.size)) _ _ s4
  refine wpAny_assign_Name (store_ok2 (v := .ref s2.heap.objs.size) J hN hy hx rfl (fun s' I' hb => ?_) hf)
  obtain ⟨a, sb, ha⟩ := hb
  have hane : s2.heap.objs.size + 1 ≠ a := by
    rcases ha with rfl | ha
    · exact neL
    · exact (neC _ _ ha).symm
  refine ⟨m, hns'.sameBut sb hane, fun h' hb' => ⟨_, _, I'.turned (t' := s'.toks) (it := s2.heap.objs.size + 1) (fun b o hne e => hb'.extBut b o hne e) ?_ neL (.inr (Nat.le_trans I2.sz (Nat.le_succ _))) neC fun p hp => ?_, q⟩⟩
  · rw [upd_ne (Nat.ne_of_gt (Nat.lt_succ_self _))]
    exact frC
  · exact Nat.ne_of_lt (Nat.lt_succ_of_lt (Heap.lt_size (I2.pin p hp).1))
end
end L2
set_option Elab.async false
set_option linter.all false
set_option maxRecDepth 100000
namespace L2
open PySem PySem.Spec PyProof.Rows
def SqAt (k : Bool) (h : Heap) (l : Addr) (xs : Array Value) : Prop := match k with | true => h.IsTuple l xs | false => h.IsList l xs
def ItAt (k : Bool) (h : Heap) (i l : Addr) (n : Nat) : Prop := match k with | true => h.IsTupleIter i l n | false => h.IsListIter i l n
def itName : Bool → String | true => "tuple_iterator" | false => "list_iterator"
def itObj (k : Bool) (l : Addr) : Obj := { cls := .type (itName k), data := .fields #[.ref l, .int 0 0] }
theorem ItAt.extBut {k : Bool} {h h' : Heap} {i l b : Addr} {n : Nat} (x : ItAt k h i l n) (hs : Heap.ExtBut b h h') (hb : i ≠ b) : ItAt k h' i l n := by
  cases k
  · exact Heap.IsListIter.extBut x hs hb
  · exact Heap.IsTupleIter.extBut x hs hb
theorem ItAt.at {k : Bool} {h h' : Heap} {i l : Addr} {n : Nat} (x : ItAt k h i l n) (e : ∀ o, h.get? i = some o → h'.get? i = some o) : ItAt k h' i l n := by
  cases k
  · exact Heap.IsListIter.at x e
  · exact Heap.IsTupleIter.at x e
theorem ItAt.get {k : Bool} {h : Heap} {i l : Addr} {n : Nat} (x : ItAt k h i l n) : ∃ o, h.get? i = some o ∧ o.data = .fields #[.ref l, .int n 0] := by
  cases k <;> obtain ⟨o, e, c, d⟩ := x <;> exact ⟨o, e, d⟩
theorem SqAt.extBut {k : Bool} {h h' : Heap} {l b : Addr} {xs : Array Value} (x : SqAt k h l xs) (hs : Heap.ExtBut b h h') (hb : l ≠ b) : SqAt k h' l xs := by
  cases k
  · exact Heap.IsList.extBut x hs hb
  · exact Heap.IsTuple.extBut x hs hb
theorem SqAt.at {k : Bool} {h h' : Heap} {l : Addr} {xs : Array Value} (x : SqAt k h l xs) (e : ∀ o, h.get? l = some o → h'.get? l = some o) : SqAt k h' l xs := by
  cases k <;> obtain ⟨o, q, r⟩ := x <;> exact ⟨o, e o q, r⟩
theorem SqAt.get {k : Bool} {h : Heap} {l : Addr} {xs : Array Value} (x : SqAt k h l xs) : ∃ o, h.get? l = some o := by
  cases k <;> obtain ⟨o, q, r⟩ := x <;> exact ⟨o, q⟩
section
variable {prog : Program} {w : World} {A : Around} {E : Value → Shared → Prop} {s : Shared}
theorem nextOf_tup_item {it t : Addr} {i : Nat} {items : Array Value} {x : Value} {Q : Value → Shared → Prop} (hit : s.heap.IsTupleIter it t i) (ht : s.heap.IsTuple t items) (hx : items[i]? = some x)
    (hQ : ∀ h', h'.IsTupleIter it t (i + 1) → Heap.SameBut it s.heap h' → Q x { s with heap := h' }) : wpAny (model prog w) A (Builtin.SmallTypes.nextOf (.ref it)) Q E s := by
  obtain ⟨o, ho, hc, hd⟩ := id hit
  obtain ⟨ol, hol, _, nl, hdl⟩ := ht
  unfold Builtin.SmallTypes.nextOf
  refine wpAny_bind (wpAny_callSpecial?_slot (name := Str.ofString "__next__") hit.typeIs F.slot_tuple_iterator_next
    (wpAny_call_entry F.slot_tuple_iterator_next hit.typeIs F.entry_tuple_iterator_next ?_ (F.args_tuple_iterator_next_1 _)))
  show wpAny _ _ (field (.ref it) 0 >>= _) _ _ s
  refine wpAny_bind (wpAny_field ho hd (x := .ref t) rfl ?_)
  show wpAny _ _ (if (Value.ref t == Value.none) = true then _ else _) _ _ s
  rw [if_neg (show ¬ ((Value.ref t == Value.none) = true) from Bool.false_ne_true)]
  show wpAny _ _ (field (.ref it) 1 >>= _) _ _ s
  refine wpAny_bind (wpAny_field ho hd (x := .int i 0) rfl ?_)
  show wpAny _ _ (seqItems? (.ref t) >>= _) _ _ s
  refine wpAny_bind (wpAny_seqItems hol hdl ?_)
  simp only [Int.toNat_natCast, hx]
  refine wpAny_bind (wpAny_setField ho hd (by simp) (wpAny_pure ⟨x, rfl, wpAny_pure (hQ _ ?_ (Heap.SameBut.update ..))⟩))
  exact ⟨_, Heap.get?_update_self _ ho (Obj.isFreed_of_fields (Obj.data_mapFields hd _)), (Obj.cls_mapFields ..).trans hc, by
    rw [Obj.data_mapFields hd]; simp [rawInt]⟩
theorem nextOf_tup_end {it t : Addr} {i : Nat} {items : Array Value} {Q : Value → Shared → Prop} (hh : A.handled = none) (hit : s.heap.IsTupleIter it t i) (ht : s.heap.IsTuple t items) (hx : items[i]? = none)
    (hE : ∀ h' e, Heap.ExtBut it s.heap h' → (∃ o, h'.get? e = some o ∧ o.cls = .type "StopIteration") → E (.ref e) { s with heap := h' }) :
    wpAny (model prog w) A (Builtin.SmallTypes.nextOf (.ref it)) Q E s := by
  obtain ⟨o, ho, hc, hd⟩ := id hit
  obtain ⟨ol, hol, _, nl, hdl⟩ := ht
  unfold Builtin.SmallTypes.nextOf
  refine wpAny_bind (wpAny_callSpecial?_slot (name := Str.ofString "__next__") hit.typeIs F.slot_tuple_iterator_next
    (wpAny_call_entry F.slot_tuple_iterator_next hit.typeIs F.entry_tuple_iterator_next ?_ (F.args_tuple_iterator_next_1 _)))
  show wpAny _ _ (field (.ref it) 0 >>= _) _ _ s
  refine wpAny_bind (wpAny_field ho hd (x := .ref t) rfl ?_)
  show wpAny _ _ (if (Value.ref t == Value.none) = true then _ else _) _ _ s
  rw [if_neg (show ¬ ((Value.ref t == Value.none) = true) from Bool.false_ne_true)]
  show wpAny _ _ (field (.ref it) 1 >>= _) _ _ s
  refine wpAny_bind (wpAny_field ho hd (x := .int i 0) rfl ?_)
  show wpAny _ _ (seqItems? (.ref t) >>= _) _ _ s
  refine wpAny_bind (wpAny_seqItems hol hdl ?_)
  simp only [Int.toNat_natCast, hx]
  refine wpAny_bind (wpAny_rule (wpAny_bind (wpAny_setField ho hd (by simp) ?_)))
  show wpAny _ _ (newExc (.type "StopIteration") [] >>= _) _ _ _
  refine wpAny_bind ?_
  simp only [newExc, newTuple]
  refine wpAny_bind (wpAny_newObj_type ?_ (by size_fits))
  refine wpAny_bind (m := firstArgMember _ _) (wpAny_of_eq (a := Value.none) (by first | rfl | (simp only [firstArgMember]; rfl)) ?_)
  refine wpAny_newObj_type ?_ (by size_fits)
  simp only [raiseNew]
  refine wpAny_bind (wpAny_handled ?_)
  first | rw [show A.in1.handled = none from hh] | rw [hh]
  refine wpAny_bind (wpAny_pure (wpAny_throw ?_))
  exact hE _ _ (((Heap.SameBut.update ..).extBut.push _).push _) ⟨_, Heap.get?_push_size _ rfl, rfl⟩
theorem src_item {k : Bool} {it l : Addr} {i : Nat} {items : Array Value} {x : Value} {Q : Value → Shared → Prop} (hit : ItAt k s.heap it l i) (ht : SqAt k s.heap l items) (hx : items[i]? = some x)
    (hQ : ∀ h', ItAt k h' it l (i + 1) → Heap.SameBut it s.heap h' → Q x { s with heap := h' }) : wpAny (model prog w) A (Builtin.SmallTypes.nextOf (.ref it)) Q E s := by
  cases k
  · exact wpAny_nextOf_list_item hit ht hx hQ
  · exact nextOf_tup_item hit ht hx hQ
theorem src_end {k : Bool} {it l : Addr} {i : Nat} {items : Array Value} {Q : Value → Shared → Prop} (hh : A.handled = none) (hit : ItAt k s.heap it l i) (ht : SqAt k s.heap l items) (hx : items[i]? = none)
    (hE : ∀ h' e, Heap.ExtBut it s.heap h' → (∃ o, h'.get? e = some o ∧ o.cls = .type "StopIteration") → E (.ref e) { s with heap := h' }) :
    wpAny (model prog w) A (Builtin.SmallTypes.nextOf (.ref it)) Q E s := by
  cases k
  · exact wpAny_nextOf_list_end hh hit ht hx hE
  · exact nextOf_tup_end hh hit ht hx hE
theorem src_iter {k : Bool} {l : Addr} {items : Array Value} {Q : Value → Shared → Prop} (ht : SqAt k s.heap l items) (hQ : Q (.ref s.heap.objs.size) { s with heap := s.heap.push (itObj k l) }) : wpAny (model prog w) A (pyIter (.ref l)) Q E s := by
  cases k
  · exact wpAny_pyIter_list ht hQ
  · exact wpAny_pyIter_tuple ht hQ
end
section
variable {prog : Program} {w : World} {A : Around} {E : Value → Shared → Prop} {s : Shared} {k1 k2 : Bool}
theorem zip_item {z TI TO i1 i2 l1 l2 : Addr} {n1 n2 : Nat} {xs ys : Array Value} {x y a b : Value} {Q : Value → Shared → Prop} (D : ZipApart z TI TO i1 i2 l1 l2)
    (hz : IsZip s.heap z TI TO .none) (hTI : IsPair s.heap TI (.ref i1) (.ref i2)) (hTO : IsPair s.heap TO a b)
    (h1 : ItAt k1 s.heap i1 l1 n1) (h2 : ItAt k2 s.heap i2 l2 n2) (hl1 : SqAt k1 s.heap l1 xs) (hl2 : SqAt k2 s.heap l2 ys) (hx : xs[n1]? = some x) (hy : ys[n2]? = some y)
    (hQ : ∀ h', IsZip h' z TI TO (rawInt s.heap.objs.size) → IsPair h' TO x y → ItAt k1 h' i1 l1 (n1 + 1) → ItAt k2 h' i2 l2 (n2 + 1) → IsPair h' s.heap.objs.size x y → h'.objs.size = s.heap.objs.size + 1 →
      (∀ c o, c ≠ z → c ≠ TO → c ≠ i1 → c ≠ i2 → s.heap.get? c = some o → h'.get? c = some o) → Q (.ref s.heap.objs.size) { s with heap := h' }) :
    wpAny (model prog w) A (Builtin.«zip.__next__» ⟨[.ref z], []⟩) (fun fin s' => ∃ v, fin = .done (.ret v) ∧ Q v s') E s := by
  show wpAny _ _ (field (.ref z) 2 >>= _) _ _ _
  refine wpAny_bind (wpAny_field hz rfl (x := .bool false) rfl ?_)
  show wpAny _ _ (field (.ref z) 3 >>= _) _ _ _
  refine wpAny_bind (wpAny_field hz rfl (x := .ref TI) rfl ?_)
  refine wpAny_bind (wpAny_seqItems hTI rfl ?_)
  show wpAny _ _ (Builtin.SmallTypes.ownedTupleIsFree (.ref z) >>= _) _ _ _
  refine wpAny_bind ?_
  unfold Builtin.SmallTypes.ownedTupleIsFree
  refine wpAny_bind (wpAny_field hz rfl (x := .none) rfl (wpAny_pure ?_))
  simp only [if_true]
  refine wpAny_bind (wpAny_rule ?_)
  refine wpAny_bind (wpAny_field hz rfl (x := .ref TO) rfl ?_)
  refine wpAny_bind (wpAny_setField_rec hz (by simp) fun h₁ hz₁ hs₁ => ?_)
  replace hz₁ : IsZip h₁ z TI TO .ellipsis := hz₁
  refine wpAny_bind ?_
  simp only [List.zipIdx_cons, List.zipIdx_nil, List.forIn_cons, List.forIn_nil]
  refine wpAny_bind (wpAny_bind (wpAny_onRaise ?_))
  show wpAny _ _ (Builtin.SmallTypes.nextOf (.ref i1) >>= _) _ _ _
  refine wpAny_bind (src_item (h1.extBut hs₁.extBut D.i1z) (hl1.extBut hs₁.extBut D.l1z) hx fun h₂ h1₂ hs₂ => wpAny_pure ?_)
  have hTO₂ : IsPair h₂ TO a b := hs₂.extBut _ _ D.TOi1 (hs₁.extBut _ _ D.TOz hTO)
  refine wpAny_bind (wpAny_seqItems hTO₂ rfl ?_)
  refine wpAny_bind (wpAny_updateSeq_pair hTO₂ fun h₃ hTO₃ hs₃ => ?_)
  replace hTO₃ : IsPair h₃ TO x b := hTO₃
  refine wpAny_bind (wpAny_letGo (wpAny_pure ?_))
  refine wpAny_bind (wpAny_bind (wpAny_onRaise ?_))
  show wpAny _ _ (Builtin.SmallTypes.nextOf (.ref i2) >>= _) _ _ _
  refine wpAny_bind (src_item (((h2.extBut hs₁.extBut D.i2z).extBut hs₂.extBut D.i12.symm).extBut hs₃.extBut D.TOi2.symm)
    (((hl2.extBut hs₁.extBut D.l2z).extBut hs₂.extBut D.l2i1).extBut hs₃.extBut D.l2TO) hy fun h₄ h2₄ hs₄ => wpAny_pure ?_)
  have hTO₄ : IsPair h₄ TO x b := hs₄.extBut _ _ D.TOi2 hTO₃
  refine wpAny_bind (wpAny_seqItems hTO₄ rfl ?_)
  refine wpAny_bind (wpAny_updateSeq_pair hTO₄ fun h₅ hTO₅ hs₅ => ?_)
  replace hTO₅ : IsPair h₅ TO x y := hTO₅
  refine wpAny_bind (wpAny_letGo (wpAny_pure (wpAny_pure ?_)))
  refine wpAny_bind (wpAny_seqItems hTO₅ rfl ?_)
  refine wpAny_bind (wpAny_newTuple ?_)
  have hsz : h₅.objs.size = s.heap.objs.size := by rw [hs₅.1, hs₄.1, hs₃.1, hs₂.1, hs₁.1]
  have hz₅ : IsZip h₅ z TI TO .ellipsis := hs₅.extBut _ _ D.TOz.symm (hs₄.extBut _ _ D.i2z.symm (hs₃.extBut _ _ D.TOz.symm (hs₂.extBut _ _ D.i1z.symm hz₁)))
  have hk₅ : ∀ c o, c ≠ z → c ≠ TO → c ≠ i1 → c ≠ i2 → s.heap.get? c = some o → h₅.get? c = some o := fun c o c1 c2 c3 c4 e =>
    hs₅.extBut _ _ c2 (hs₄.extBut _ _ c4 (hs₃.extBut _ _ c2 (hs₂.extBut _ _ c3 (hs₁.extBut _ _ c1 e))))
  have h1₅ : ItAt k1 h₅ i1 l1 (n1 + 1) := ((h1₂.extBut hs₃.extBut D.TOi1.symm).extBut hs₄.extBut D.i12).extBut hs₅.extBut D.TOi1.symm
  have h2₅ : ItAt k2 h₅ i2 l2 (n2 + 1) := h2₄.extBut hs₅.extBut D.TOi2.symm
  have hzlt : z < h₅.objs.size := Heap.lt_size hz₅
  show wpAny _ _ (Builtin.SmallTypes.ownedTupleHandOut (.ref z) (.ref h₅.objs.size) >>= _) _ _ _
  refine wpAny_bind ?_
  unfold Builtin.SmallTypes.ownedTupleHandOut
  have hz₆ : IsZip (h₅.push { cls := .type "tuple", data := .seq #[x, y] }) z TI TO .ellipsis := Heap.get?_push_of_some _ hz₅
  refine wpAny_bind (wpAny_setField_rec hz₆ (by simp) fun h₇ hz₇ hs₇ => ?_)
  replace hz₇ : IsZip h₇ z TI TO (rawInt h₅.objs.size) := hz₇
  refine wpAny_setField_rec hz₇ (by simp) fun h₈ hz₈ hs₈ => ?_
  replace hz₈ : IsZip h₈ z TI TO (rawInt h₅.objs.size) := hz₈
  have up : ∀ c o, c ≠ z → h₅.get? c = some o → h₈.get? c = some o := fun c o c1 e => hs₈.extBut _ _ c1 (hs₇.extBut _ _ c1 (Heap.get?_push_of_some _ e))
  have hT₈ : IsPair h₈ h₅.objs.size x y := hs₈.extBut _ _ (Nat.ne_of_gt hzlt) (hs₇.extBut _ _ (Nat.ne_of_gt hzlt) (Heap.get?_push_size _ rfl))
  have hz8 : h₈.objs.size = h₅.objs.size + 1 := by rw [hs₈.1, hs₇.1, Heap.size_push]
  rw [hsz] at hz₈ hT₈ hz8
  refine wpAny_pure ⟨_, rfl, ?_⟩
  show Q (.ref h₅.objs.size) _
  rw [hsz]
  exact hQ h₈ hz₈ (up _ _ D.TOz hTO₅) (h1₅.at fun o e => up _ o D.i1z e) (h2₅.at fun o e => up _ o D.i2z e) hT₈ hz8 fun c o c1 c2 c3 c4 e => up c o c1 (hk₅ c o c1 c2 c3 c4 e)
theorem zip_end {z TI TO i1 i2 l1 l2 : Addr} {n1 n2 : Nat} {xs ys : Array Value} {a b : Value} {Q : Fin → Shared → Prop} (hh : A.handled = none) (D : ZipApart z TI TO i1 i2 l1 l2)
    (hz : IsZip s.heap z TI TO .none) (hTI : IsPair s.heap TI (.ref i1) (.ref i2)) (hTO : IsPair s.heap TO a b)
    (h1 : ItAt k1 s.heap i1 l1 n1) (h2 : ItAt k2 s.heap i2 l2 n2) (hl1 : SqAt k1 s.heap l1 xs) (hl2 : SqAt k2 s.heap l2 ys) (hend : xs[n1]? = none ∨ ys[n2]? = none)
    (hE : ∀ h' e, (∀ c o, c ≠ z → c ≠ TO → c ≠ i1 → c ≠ i2 → s.heap.get? c = some o → h'.get? c = some o) → (∃ o, h'.get? e = some o ∧ o.cls = .type "StopIteration") → E (.ref e) { s with heap := h' }) :
    wpAny (model prog w) A (Builtin.«zip.__next__» ⟨[.ref z], []⟩) Q E s := by
  show wpAny _ _ (field (.ref z) 2 >>= _) _ _ _
  refine wpAny_bind (wpAny_field hz rfl (x := .bool false) rfl ?_)
  show wpAny _ _ (field (.ref z) 3 >>= _) _ _ _
  refine wpAny_bind (wpAny_field hz rfl (x := .ref TI) rfl ?_)
  refine wpAny_bind (wpAny_seqItems hTI rfl ?_)
  show wpAny _ _ (Builtin.SmallTypes.ownedTupleIsFree (.ref z) >>= _) _ _ _
  refine wpAny_bind ?_
  unfold Builtin.SmallTypes.ownedTupleIsFree
  refine wpAny_bind (wpAny_field hz rfl (x := .none) rfl (wpAny_pure ?_))
  simp only [if_true]
  refine wpAny_bind (wpAny_rule ?_)
  refine wpAny_bind (wpAny_field hz rfl (x := .ref TO) rfl ?_)
  refine wpAny_bind (wpAny_setField_rec hz (by simp) fun h₁ hz₁ hs₁ => ?_)
  replace hz₁ : IsZip h₁ z TI TO .ellipsis := hz₁
  refine wpAny_bind ?_
  simp only [List.zipIdx_cons, List.zipIdx_nil, List.forIn_cons, List.forIn_nil]
  refine wpAny_bind (wpAny_bind (wpAny_onRaise ?_))
  show wpAny _ _ (Builtin.SmallTypes.nextOf (.ref i1) >>= _) _ _ _
  cases hx : xs[n1]? with
  | none =>
    refine wpAny_bind (src_end hh (h1.extBut hs₁.extBut D.i1z) (hl1.extBut hs₁.extBut D.l1z) hx fun h₂ e hs₂ he => ?_)
    obtain ⟨oe, hoe, hce⟩ := he
    have hz₂ : IsZip h₂ z TI TO .ellipsis := hs₂ _ _ D.i1z.symm hz₁
    have hez : e ≠ z := fun x => by subst x; rw [hz₂] at hoe; cases hoe; simp at hce
    refine wpAny_setField_rec hz₂ (by simp) fun h₃ _ hs₃ => hE h₃ e (fun c o c1 _ c3 _ x => hs₃.extBut _ _ c1 (hs₂ _ _ c3 (hs₁.extBut _ _ c1 x))) ⟨oe, hs₃.extBut _ _ hez hoe, hce⟩
  | some x =>
    have hy : ys[n2]? = none := by rcases hend with h | h; rw [hx] at h; cases h; exact h
    refine wpAny_bind (src_item (h1.extBut hs₁.extBut D.i1z) (hl1.extBut hs₁.extBut D.l1z) hx fun h₂ h1₂ hs₂ => wpAny_pure ?_)
    have hTO₂ : IsPair h₂ TO a b := hs₂.extBut _ _ D.TOi1 (hs₁.extBut _ _ D.TOz hTO)
    refine wpAny_bind (wpAny_seqItems hTO₂ rfl ?_)
    refine wpAny_bind (wpAny_updateSeq_pair hTO₂ fun h₃ hTO₃ hs₃ => ?_)
    refine wpAny_bind (wpAny_letGo (wpAny_pure ?_))
    refine wpAny_bind (wpAny_bind (wpAny_onRaise ?_))
    show wpAny _ _ (Builtin.SmallTypes.nextOf (.ref i2) >>= _) _ _ _
    refine wpAny_bind (src_end hh (((h2.extBut hs₁.extBut D.i2z).extBut hs₂.extBut D.i12.symm).extBut hs₃.extBut D.TOi2.symm)
      (((hl2.extBut hs₁.extBut D.l2z).extBut hs₂.extBut D.l2i1).extBut hs₃.extBut D.l2TO) hy fun h₄ e hs₄ he => ?_)
    obtain ⟨oe, hoe, hce⟩ := he
    have hz₄ : IsZip h₄ z TI TO .ellipsis := hs₄ _ _ D.i2z.symm (hs₃.extBut _ _ D.TOz.symm (hs₂.extBut _ _ D.i1z.symm hz₁))
    have hez : e ≠ z := fun x => by subst x; rw [hz₄] at hoe; cases hoe; simp at hce
    refine wpAny_setField_rec hz₄ (by simp) fun h₅ _ hs₅ => hE h₅ e (fun c o c1 c2 c3 c4 x => hs₅.extBut _ _ c1 (hs₄ _ _ c4 (hs₃.extBut _ _ c2 (hs₂.extBut _ _ c3 (hs₁.extBut _ _ c1 x))))) ⟨oe, hs₅.extBut _ _ hez hoe, hce⟩
abbrev zH1 (k1 : Bool) (h : Heap) (l1 : Addr) : Heap := h.push (itObj k1 l1)
abbrev zH2 (k1 k2 : Bool) (h : Heap) (l1 l2 : Addr) : Heap := (zH1 k1 h l1).push (itObj k2 l2)
abbrev zH3 (k1 k2 : Bool) (h : Heap) (l1 l2 : Addr) : Heap := (zH2 k1 k2 h l1 l2).push { cls := .type "tuple", data := .seq #[.ref h.objs.size, .ref (zH1 k1 h l1).objs.size] }
abbrev zH4 (k1 k2 : Bool) (h : Heap) (l1 l2 : Addr) : Heap := (zH3 k1 k2 h l1 l2).push { cls := .type "tuple", data := .seq #[.none, .none] }
abbrev zH5 (k1 k2 : Bool) (h : Heap) (l1 l2 : Addr) : Heap := (zH4 k1 k2 h l1 l2).push { cls := .type "zip", data := .fields #[.none, .bool false, .bool false, .ref (zH2 k1 k2 h l1 l2).objs.size, .ref (zH3 k1 k2 h l1 l2).objs.size] }
theorem zip_new (l1 l2 : Addr) (xs ys : Array Value) :
    Meets (Builtin.«zip.__new__» ⟨[.type "zip", .ref l1, .ref l2], []⟩) (fun _ R s => SqAt k1 s.heap l1 xs ∧ SqAt k2 s.heap l2 ys ∧
      R (.ok (.ret (.ref (zH4 k1 k2 s.heap l1 l2).objs.size))) { s with heap := zH5 k1 k2 s.heap l1 l2 }) :=
  .of_wp fun prog w A R s h => by
    obtain ⟨hp, g, d, tk, os⟩ := s; obtain ⟨hl1, hl2, h⟩ := h
    have hsub := sub_zip
    have hL1 : SqAt k1 (Shared.heap ⟨hp, g, d, tk, os⟩) l1 xs := hl1
    have hL2 : SqAt k2 (Shared.heap ⟨hp.push (itObj k1 l1), g, d, tk, os⟩) l2 ys := hl2.at fun o e => Heap.get?_push_of_some _ e
    wp_walk using src_iter hL1, src_iter hL2
    exact ⟨_, rfl, h⟩
theorem zip_call {l1 l2 : Addr} {xs ys : Array Value} {Q : Value → Shared → Prop} (hl1 : SqAt k1 s.heap l1 xs) (hl2 : SqAt k2 s.heap l2 ys)
    (h : ∀ h', IsZip h' (s.heap.objs.size + 4) (s.heap.objs.size + 2) (s.heap.objs.size + 3) .none → IsPair h' (s.heap.objs.size + 2) (.ref s.heap.objs.size) (.ref (s.heap.objs.size + 1)) →
      IsPair h' (s.heap.objs.size + 3) .none .none → ItAt k1 h' s.heap.objs.size l1 0 → ItAt k2 h' (s.heap.objs.size + 1) l2 0 → h'.objs.size = s.heap.objs.size + 5 →
      (∀ c o, s.heap.get? c = some o → h'.get? c = some o) → Q (.ref (s.heap.objs.size + 4)) { s with heap := h' }) :
    wpAny (model prog w) A (call (.type "zip") [.ref l1, .ref l2]) Q E s := by
  refine callType_new F.called_zip (by decide) (F.typeCall_zip_2 _ _) (F.newCall_zip_2 _ _) (fun obj => F.args_object_init_3 obj _ _) F.entry_zip_new
    (zip_new (k1 := k1) (k2 := k2) l1 l2 xs ys) ⟨hl1, hl2, ?_⟩
  have z1 : (zH1 k1 s.heap l1).objs.size = s.heap.objs.size + 1 := Heap.size_push ..
  have z2 : (zH2 k1 k2 s.heap l1 l2).objs.size = s.heap.objs.size + 2 := by rw [Heap.size_push, z1]
  have z3 : (zH3 k1 k2 s.heap l1 l2).objs.size = s.heap.objs.size + 3 := by rw [Heap.size_push, z2]
  have z4 : (zH4 k1 k2 s.heap l1 l2).objs.size = s.heap.objs.size + 4 := by rw [Heap.size_push, z3]
  have z5 : (zH5 k1 k2 s.heap l1 l2).objs.size = s.heap.objs.size + 5 := by rw [Heap.size_push, z4]
  have g5 : (zH5 k1 k2 s.heap l1 l2).get? (zH4 k1 k2 s.heap l1 l2).objs.size = some _ := Heap.get?_push_size _ rfl
  have g4 : (zH5 k1 k2 s.heap l1 l2).get? (zH3 k1 k2 s.heap l1 l2).objs.size = some _ := Heap.get?_push_of_some _ (Heap.get?_push_size _ rfl)
  have g3 : (zH5 k1 k2 s.heap l1 l2).get? (zH2 k1 k2 s.heap l1 l2).objs.size = some _ := Heap.get?_push_of_some _ (Heap.get?_push_of_some _ (Heap.get?_push_size _ rfl))
  have g2 : (zH5 k1 k2 s.heap l1 l2).get? (zH1 k1 s.heap l1).objs.size = some (itObj k2 l2) := Heap.get?_push_of_some _ (Heap.get?_push_of_some _ (Heap.get?_push_of_some _ (Heap.get?_push_size _ rfl)))
  have g1 : (zH5 k1 k2 s.heap l1 l2).get? s.heap.objs.size = some (itObj k1 l1) := Heap.get?_push_of_some _ (Heap.get?_push_of_some _ (Heap.get?_push_of_some _ (Heap.get?_push_of_some _ (Heap.get?_push_size _ rfl))))
  show _ ∧ _
  rw [z2, z3, z4] at g5
  rw [z1, z2] at g3
  rw [z3] at g4
  rw [z1] at g2
  rw [z4]
  refine ⟨⟨_, g5, rfl⟩, h _ g5 g3 g4 ?_ ?_ z5 fun c o x =>
    Heap.get?_push_of_some _ (Heap.get?_push_of_some _ (Heap.get?_push_of_some _ (Heap.get?_push_of_some _ (Heap.get?_push_of_some _ x))))⟩
  · cases k1 <;> exact ⟨_, g1, rfl, rfl⟩
  · cases k2 <;> exact ⟨_, g2, rfl, rfl⟩
end
def SqK (k : Bool) (K : PySem.W.Frag) (H : Hp) (a : Addr) (xs : List V) : Prop := match k with | true => SqT K H a xs | false => SqL K H a xs
theorem Inv.sqk {X : Cx} {pins : List (Addr × Obj)} {σ : St} {H : Hp} {s : Shared} {k : Bool} {a : Addr} {xs : List V} (I : Inv X pins σ H s) (h : SqK k X.K H a xs) : ∃ its : List Value, Vals xs its ∧ SqAt k s.heap a its.toArray ∧ xs.length ≤ sizeLine := by
  cases k
  · obtain ⟨its, r, p, z⟩ := I.list h
    exact ⟨its, r, p.isList, z⟩
  · obtain ⟨its, r, p, z⟩ := I.tuple h
    exact ⟨its, r, p, z⟩
theorem Inv.sqk_inj {X : Cx} {pins : List (Addr × Obj)} {σ : St} {H : Hp} {s : Shared} {k : Bool} {a : Addr} {xs ys : List V} (I : Inv X pins σ H s) (h : SqK k X.K H a xs) (h' : SqK k X.K H a ys) : xs = ys := by
  cases k
  · exact I.list_inj h h'
  · exact I.tuple_inj h h'
def Itz (K : PySem.W.Frag) (k1 k2 : Bool) (a b : Addr) : It :=
  ⟨fun i H => ∃ xs ys x y, SqK k1 K H a xs ∧ SqK k2 K H b ys ∧ xs[i]? = some x ∧ ys[i]? = some y,
   fun i H v H' => ∃ p x y, v = .ref p ∧ H p = none ∧ H' = upd H p (.tup [x, y]) ∧ (∀ xs, SqK k1 K H a xs → xs[i]? = some x) ∧ ∀ ys, SqK k2 K H b ys → ys[i]? = some y,
   fun i H => ∃ xs ys, SqK k1 K H a xs ∧ SqK k2 K H b ys ∧ (xs.length ≤ i ∨ ys.length ≤ i)⟩
structure ZTurn (k1 k2 : Bool) (z TI TO i1 i2 a b : Addr) (i : Nat) (f0 : Value) (h : Heap) : Prop where
  zz : IsZip h z TI TO f0
  ti : IsPair h TI (.ref i1) (.ref i2)
  to : ∃ u v, IsPair h TO u v
  t1 : ItAt k1 h i1 a i
  t2 : ItAt k2 h i2 b i
structure ZNe (z TI TO i1 i2 : Addr) : Prop where
  TIz : TI ≠ z
  TOz : TO ≠ z
  i1z : i1 ≠ z
  i2z : i2 ≠ z
  TITO : TI ≠ TO
  TIi1 : TI ≠ i1
  TIi2 : TI ≠ i2
  TOi1 : TO ≠ i1
  TOi2 : TO ≠ i2
  i12 : i1 ≠ i2
section
variable {X : Cx} {pins : List (Addr × Obj)} {σ : St} {H : Hp} {s : Shared}
theorem Inv.turnedT {h' : Heap} {ch : List Addr} {p : Addr} {o : HO} (I : Inv X pins σ H s) (hf : ∀ b ∈ ch, FpOk X pins H b) (hp : s.heap.objs.size = p) (k : ∀ b o, b ∉ ch → s.heap.get? b = some o → h'.get? b = some o)
    (new : ObjOk X.prog X.w (upd H p o) h' p o) : Inv X pins σ (upd H p o) { s with heap := h' } := by
  have hn : H p = none := I.hok.fresh (Nat.le_of_eq hp)
  have nit : ∀ b u, H b = some u → b ∉ ch := fun b u e z => by rw [(hf b z).1] at e; cases e
  have nep : ∀ b u, H b = some u → b ≠ p := fun b u e z => by rw [z, hn] at e; cases e
  have nap : ∀ b u, s.heap.get? b = some u → b ≠ p := fun b u e => by
    rw [← hp]
    exact Nat.ne_of_lt (Heap.lt_size e)
  refine I.step (g' := s.gens) (d' := s.drawn) (t' := s.toks) (ch := ch) (fun b hb => ?_) (fun b o _ _ hc e _ => k b o hc e) (fun b o _ _ hc e _ => ⟨o.slots, k b o hc e⟩) (fun b u _ e n => by rw [upd_ne (nap b u e)]; exact n)
    (fun b o hc e => ⟨o, k b o hc e⟩) (fun b xs e => by rw [upd_ne (nep b _ e)]; exact e) (fun b u v e => by rw [upd_ne (nep b _ e)]; exact e) (fun b ps e => ⟨#[], by rw [upd_ne (nep b _ e), e]; simp⟩) (fun m hm => ?_) (fun b u e => ?_) I.bare
  · obtain ⟨_, h1, _, h3, h4, h5⟩ := hf b hb
    exact ⟨h3, h1, h4, h5⟩
  · obtain ⟨o, es, ep, ho, r⟩ := hm
    exact ⟨o, es, ep, k _ o (fun z => (hf _ z).2.1 rfl) ho, r⟩
  · by_cases hb : b = p
    · subst hb
      rw [upd_same] at e
      cases e
      exact new
    · rw [upd_ne hb] at e
      refine (I.hok b u e).stay (fun c v hc q => k c v ?_ q) (fun c q => by rw [upd_ne (nep c _ q)]; exact q) fun c xs q => by rw [upd_ne (nep c _ q)]; exact q
      rcases hc with z | z
      · rw [z]; exact nit b u e
      · exact nit c _ z
theorem Inv.turnedL {h' : Heap} {ch : List Addr} (I : Inv X pins σ H s) (hf : ∀ b ∈ ch, FpOk X pins H b) (k : ∀ b o, b ∉ ch → s.heap.get? b = some o → h'.get? b = some o) : Inv X pins σ H { s with heap := h' } := by
  have nit : ∀ b u, H b = some u → b ∉ ch := fun b u e z => by rw [(hf b z).1] at e; cases e
  refine I.step (g' := s.gens) (d' := s.drawn) (t' := s.toks) (ch := ch) (fun b hb => ?_) (fun b o _ _ hc e _ => k b o hc e) (fun b o _ _ hc e _ => ⟨o.slots, k b o hc e⟩) (fun b u _ e n => n)
    (fun b o hc e => ⟨o, k b o hc e⟩) (fun b xs e => e) (fun b u v e => e) (fun b ps e => ⟨#[], by rw [e]; simp⟩) (fun m hm => ?_) (fun b u e => ?_) I.bare
  · obtain ⟨_, h1, _, h3, h4, h5⟩ := hf b hb
    exact ⟨h3, h1, h4, h5⟩
  · obtain ⟨o, es, ep, ho, r⟩ := hm
    exact ⟨o, es, ep, k _ o (fun z => (hf _ z).2.1 rfl) ho, r⟩
  · refine (I.hok b u e).stay (fun c v hc q => k c v ?_ q) (fun c q => q) fun c xs q => q
    rcases hc with z | z
    · rw [z]; exact nit b u e
    · exact nit c _ z
theorem Inv.apart {k : Bool} {a : Addr} {xs : List V} {b : Addr} {o : Obj} (I : Inv X pins σ H s) (hs : SqK k X.K H a xs) (hf : FpOk X pins H b) : a ≠ b := by
  rintro rfl
  have inH : ∀ {u : HO}, Rd H a u → False := fun r => by
    rcases r with r | ⟨o, r⟩ <;> rw [hf.1] at r <;> cases r
  have inK : ∀ {ob : Obj}, X.K.lookup a = some ob → False := fun e => by
    have e0 := I.mod.kin a _ e
    rcases hf.2.2.2.1 with z | z
    · exact I.ok.noex _ _ e0 z
    · exact absurd (Nat.lt_of_lt_of_le (Heap.lt_size (I.ok.bs _ _ e0).1) z) (Nat.lt_irrefl _)
  cases k
  · rcases hs with r | ⟨ob, _, _, e, _⟩
    · exact inH r
    · exact inK e
  · rcases hs with r | ⟨ob, _, _, e, _⟩
    · exact inH r
    · exact inK e
end
theorem turn_zip {P : Program} {w : World} {K : PySem.W.Frag} {es : List Expr} {kt : Nat} {tp : Pos} {k1 k2 : Bool} {a b z TI TO i1 i2 : Addr} (D : ZNe z TI TO i1 i2) :
    Turn P w K (.Tuple es kt tp) (Itz K k1 k2 a b) [z, TI, TO, i1, i2] z (fun i h => ZTurn k1 k2 z TI TO i1 i2 a b i .none h) where
  mem := by simp
  obj := fun i h st c hc => by
    simp only [List.mem_cons, List.not_mem_nil, or_false] at hc
    rcases hc with rfl | rfl | rfl | rfl | rfl
    · exact ⟨_, st.zz, fun v z => by cases z⟩
    · exact ⟨_, st.ti, fun v z => by cases z⟩
    · obtain ⟨u, v, q⟩ := st.to
      exact ⟨_, q, fun v z => by cases z⟩
    · obtain ⟨o, e, d⟩ := st.t1.get
      exact ⟨o, e, fun v z => by rw [d] at z; cases z⟩
    · obtain ⟨o, e, d⟩ := st.t2.get
      exact ⟨o, e, fun v z => by rw [d] at z; cases z⟩
  keep := fun i h h' st k => ⟨k z (by simp) _ st.zz, k TI (by simp) _ st.ti, let ⟨u, v, q⟩ := st.to; ⟨u, v, k TO (by simp) _ q⟩, st.t1.at fun o e => k i1 (by simp) o e, st.t2.at fun o e => k i2 (by simp) o e⟩
  item := by
    intro X hP hw hK hc i pins s σ H E I hf st hg
    subst hP hw hK
    obtain ⟨xs, ys, x, y, hx1, hy1, hx, hy⟩ := hg
    obtain ⟨us, ru, pu, zu⟩ := I.sqk hx1
    obtain ⟨ws, rw', pw, zw⟩ := I.sqk hy1
    obtain ⟨u, hu, rux⟩ := ru.get hx
    obtain ⟨v, hv, rvy⟩ := rw'.get hy
    have ap : ∀ c ∈ [z, TI, TO, i1, i2], a ≠ c ∧ b ≠ c := fun c hc => ⟨I.apart (o := default) hx1 (hf c hc), I.apart (o := default) hy1 (hf c hc)⟩
    have D' : ZipApart z TI TO i1 i2 a b := ⟨D.TIz, D.TOz, D.i1z, D.i2z, D.TITO, D.TIi1, D.TIi2, D.TOi1, D.TOi2, D.i12, (ap z (by simp)).1, (ap TO (by simp)).1, (ap i1 (by simp)).1, (ap i2 (by simp)).1, (ap z (by simp)).2, (ap TO (by simp)).2, (ap i1 (by simp)).2, (ap i2 (by simp)).2⟩
    obtain ⟨ua, ub, hTO⟩ := st.to
    have hT : s.TypeIs (.ref z) "zip" := ⟨_, st.zz, rfl⟩
    unfold pyNext
    refine wpAny_bind (wpAny_attempt (wpAny_callSpecial?_slot (name := Str.ofString "__next__") hT F.slot_zip_next
      (wpAny_call_entry F.slot_zip_next hT F.entry_zip_next
        (zip_item D' st.zz st.ti hTO st.t1 st.t2 pu pw (x := u) (y := v) (by simpa using hu) (by simpa using hv) fun h' a1 a2 a3 a4 a5 a6 a7 => wpAny_pure ?_) (F.args_zip_next_1 _))))
    refine ⟨_, rfl, ?_⟩
    refine wpAny_letOwnedTupleGo_zip (s := { s with heap := h' }) a1 fun h2 hz2 hs2 => ?_
    have ne : ∀ c ∈ [z, TI, TO, i1, i2], c ≠ s.heap.objs.size := fun c hc e => by
      have : ∃ o, s.heap.get? c = some o := by
        simp only [List.mem_cons, List.not_mem_nil, or_false] at hc
        rcases hc with rfl | rfl | rfl | rfl | rfl
        · exact ⟨_, st.zz⟩
        · exact ⟨_, st.ti⟩
        · exact ⟨_, hTO⟩
        · obtain ⟨o, e, d⟩ := st.t1.get; exact ⟨o, e⟩
        · obtain ⟨o, e, d⟩ := st.t2.get; exact ⟨o, e⟩
      obtain ⟨o, q⟩ := this
      exact absurd (Heap.lt_size q) (by rw [e]; exact Nat.lt_irrefl _)
    have hfree : H s.heap.objs.size = none := I.hok.fresh (Nat.le_refl _)
    have pr2 : IsPair h2 s.heap.objs.size u v := hs2.extBut _ _ (ne z (by simp)).symm a5
    have kk : ∀ c o, c ∉ [z, TI, TO, i1, i2] → s.heap.get? c = some o → h2.get? c = some o := fun c o hc e => by
      simp only [List.mem_cons, List.not_mem_nil, or_false, not_or] at hc
      exact hs2.extBut _ _ hc.1 (a7 c o hc.1 hc.2.2.1 hc.2.2.2.1 hc.2.2.2.2 e)
    have I2 : Inv X pins σ (upd H s.heap.objs.size (.tup [x, y])) { s with heap := h2 } :=
      I.turnedT (ch := [z, TI, TO, i1, i2]) hf rfl kk ⟨by show 2 ≤ sizeLine; decide, [u, v], .cons rux (.cons rvy .nil), ⟨_, pr2, rfl, 0, rfl⟩⟩
    refine ⟨.ref s.heap.objs.size, _, I2, rfl, ⟨_, x, y, rfl, hfree, rfl, fun zs hz => ?_, fun zs hz => ?_⟩, ⟨hz2, hs2.extBut _ _ D.TIz (a7 _ _ D.TIz D.TITO D.TIi1 D.TIi2 st.ti), ⟨u, v, hs2.extBut _ _ D.TOz a2⟩, a3.extBut hs2.extBut D.i1z, a4.extBut hs2.extBut D.i2z⟩, fun c hc => ?_⟩
    · rw [I.sqk_inj hz hx1]; exact hx
    · rw [I.sqk_inj hz hy1]; exact hy
    · rw [upd_ne (ne c hc)]; exact (hf c hc).1
  done := by
    intro X hP hw hK hc i pins s σ H E I hf st hg
    subst hP hw hK
    obtain ⟨xs, ys, hx1, hy1, hend⟩ := hg
    obtain ⟨us, ru, pu, zu⟩ := I.sqk hx1
    obtain ⟨ws, rw', pw, zw⟩ := I.sqk hy1
    have l1 := ru.length
    have l2 := rw'.length
    have ap : ∀ c ∈ [z, TI, TO, i1, i2], a ≠ c ∧ b ≠ c := fun c hc => ⟨I.apart (o := default) hx1 (hf c hc), I.apart (o := default) hy1 (hf c hc)⟩
    have D' : ZipApart z TI TO i1 i2 a b := ⟨D.TIz, D.TOz, D.i1z, D.i2z, D.TITO, D.TIi1, D.TIi2, D.TOi1, D.TOi2, D.i12, (ap z (by simp)).1, (ap TO (by simp)).1, (ap i1 (by simp)).1, (ap i2 (by simp)).1, (ap z (by simp)).2, (ap TO (by simp)).2, (ap i1 (by simp)).2, (ap i2 (by simp)).2⟩
    obtain ⟨ua, ub, hTO⟩ := st.to
    have hT : s.TypeIs (.ref z) "zip" := ⟨_, st.zz, rfl⟩
    unfold pyNext
    refine wpAny_bind (wpAny_attempt (wpAny_callSpecial?_slot (name := Str.ofString "__next__") hT F.slot_zip_next
      (wpAny_call_entry F.slot_zip_next hT F.entry_zip_next (zip_end (I.ok.hd hc) D' st.zz st.ti hTO st.t1 st.t2 pu pw ?_ fun h' e hk he => ?_) (F.args_zip_next_1 _))))
    · rcases hend with q | q
      · exact .inl (by simp; omega)
      · exact .inr (by simp; omega)
    · obtain ⟨o, ho, hc⟩ := he
      refine wpAny_bind (wpAny_isInstance (T := "StopIteration") (b := true) ⟨o, ho, hc⟩ isSubtype_stop ?_)
      refine wpAny_pure ⟨rfl, I.turnedL (ch := [z, TI, TO, i1, i2]) hf fun c o hc e => ?_⟩
      simp only [List.mem_cons, List.not_mem_nil, or_false, not_or] at hc
      exact hk c o hc.1 hc.2.2.1 hc.2.2.2.1 hc.2.2.2.2 e
  self := fun A i s Q E st h => wpAny_pyIter_zip st.zz h
theorem nne {a b : Nat} (h : a ≠ b) : @Ne Addr a b := h
theorem zne (n : Nat) : ZNe (n + 4) (n + 2) (n + 3) n (n + 1) :=
  ⟨nne (by omega), nne (by omega), nne (by omega), nne (by omega), nne (by omega), nne (by omega), nne (by omega), nne (by omega), nne (by omega), nne (by omega)⟩
def iZip (K : PySem.W.Frag) (ta : TA) : TI := fun σ H R => ta σ H fun vs H1 => ∃ k1 k2 a b, vs = [.ref a, .ref b] ∧ (∃ xs, SqK k1 K H1 a xs) ∧ (∃ ys, SqK k2 K H1 b ys) ∧ R (Itz K k1 k2 a b) H1
section
variable {X : Cx}
theorem pi_zip {es : List Expr} {kt : Nat} {tp : Pos} {a b : Expr} {ta : TA} {p pos : Pos} (hg : Gl X "zip") (hm : X.mg "zip" = none) (ha : PA X [a, b] ta) (hbz : bootBuiltins "zip" = some (.type "zip"))
    (hs : starEach [a, b] X.env = [(false, eval a X.env), (false, eval b X.env)] := by rfl) (hs2 : starEach [b] X.env = [(false, eval b X.env)] := by rfl) :
    PI X (.Tuple es kt tp) (.Call (.Name "zip" p) [a, b] [] pos) (iZip X.K ta) := by
  intro pins s σ H R I h
  refine Call_ (ld_blt I hg hm hbz (PyProof.Rows.callWith_type1 (thn (ha pos pins s σ H _ I h) fun us s1 ⟨vs, H1, I1, r1, q1⟩ => ?_) (by rw [hs, hs2]) (by rw [hs2]; rfl)))
  obtain ⟨k1, k2, l1, l2, e, ⟨xs, hx⟩, ⟨ys, hy⟩, q⟩ := q1
  subst e
  cases r1 with
  | cons r rr =>
    cases rr with
    | cons r' rr =>
      cases rr
      cases r
      cases r'
      obtain ⟨us, ru, pu, zu⟩ := I1.sqk hx
      obtain ⟨ws, rw', pw, zw⟩ := I1.sqk hy
      refine zip_call pu pw fun h' z1 z2 z3 z4 z5 z6 z7 => ?_
      refine wpAny_pyIter_zip (s := { s1 with heap := h' }) z1 ?_
      refine ⟨s1.heap.objs.size + 4, [s1.heap.objs.size + 4, s1.heap.objs.size + 2, s1.heap.objs.size + 3, s1.heap.objs.size, s1.heap.objs.size + 1], _, _, H1, rfl, I1.kept (t' := s1.toks) z7, turn_zip (zne _),
        ⟨z1, z2, ⟨_, _, z3⟩, z4, z5⟩, fun c hc => ?_, q⟩
      have hle : s1.heap.objs.size ≤ c := by
        simp only [List.mem_cons, List.not_mem_nil, or_false] at hc
        rcases hc with rfl | rfl | rfl | rfl | rfl
        · exact Nat.le_add_right _ _
        · exact Nat.le_add_right _ _
        · exact Nat.le_add_right _ _
        · exact Nat.le_refl _
        · exact Nat.le_add_right _ _
      exact I1.fpOk hle (I1.hok.fresh hle)
end
end L2
set_option Elab.async false
set_option linter.all false
set_option maxRecDepth 100000
namespace L2
open PySem PySem.Spec PyProof.Rows
theorem walks_at {prog : Program} {w : World} {A : Around} {k : Bool} {I l : Addr} {items : Array Value} (hh : A.handled = none) (hne : l ≠ I) :
    Walks prog w A I [I, l] [I] items.size (fun i v => items[i]? = some v) (fun i h => ItAt k h I l i ∧ SqAt k h l items) := by
  cases k
  · exact Walks.list hh I l hne items
  · exact Walks.tuple hh I l hne items
def trV : V → Bool
  | .bl b => b
  | .int i => i != 0
  | .non => false
  | _ => true
def flatT : V → Bool
  | .bl _ => true
  | .int _ => true
  | .non => true
  | _ => false
theorem truthy_flat {prog : Program} {w : World} {A : Around} {E : Value → Shared → Prop} {s : Shared} {x : V} {v : Value} {Q : Bool → Shared → Prop} (r : RelV x v) (f : flatT x = true) (h : Q (trV x) s) : wpAny (model prog w) A (truthy v) Q E s := by
  cases x with
  | non => cases r; exact truthy_none h
  | bl b => cases r; exact wpAny_truthy_bool h
  | int i => obtain ⟨t, rfl⟩ := r; exact PySem.P.truthy_int h
  | _ => cases f
theorem range_all {α : Type} (xs : List α) (p : α → Bool) (d : α) : (List.range xs.length).all (fun i => p (xs.getD i d)) = xs.all p := by
  rw [Bool.eq_iff_iff, List.all_eq_true, List.all_eq_true]
  constructor
  · intro h x hx
    obtain ⟨i, hi, rfl⟩ := List.mem_iff_getElem.mp hx
    have := h i (List.mem_range.mpr hi)
    simpa [List.getD_eq_getElem?_getD, hi] using this
  · intro h i hi
    have hi' := List.mem_range.mp hi
    simpa [List.getD_eq_getElem?_getD, hi'] using h xs[i] (List.getElem_mem hi')
section
variable {X : Cx}
abbrev RL := List V → Hp → VK → Prop
def rAll (K : PySem.W.Frag) : RL := fun xs H Q => ∃ (k : Bool) (p : Addr) (ys : List V), xs = [.ref p] ∧ SqK k K H p ys ∧ ys.all flatT = true ∧ Q (.bl (ys.all trV)) H
theorem it_new {k : Bool} {l : Addr} {items : Array Value} {s : Shared} (h : SqAt k s.heap l items) : ItAt k (s.heap.push (itObj k l)) s.heap.objs.size l 0 ∧ SqAt k (s.heap.push (itObj k l)) l items := by
  refine ⟨?_, h.at fun o e => Heap.get?_push_of_some _ e⟩
  cases k <;> exact ⟨_, Heap.get?_push_size _ rfl, rfl, rfl⟩
theorem l_ne_new {k : Bool} {l : Addr} {items : Array Value} {s : Shared} (h : SqAt k s.heap l items) : l ≠ s.heap.objs.size := by
  obtain ⟨o, e⟩ := h.get
  exact Nat.ne_of_lt (Heap.lt_size e)
theorem keep_new {s : Shared} {h' : Heap} {o0 : Obj} (hk : ∀ b o, b ∉ [s.heap.objs.size] → (s.heap.push o0).get? b = some o → h'.get? b = some o) : ∀ b o, s.heap.get? b = some o → h'.get? b = some o := fun b o e =>
  hk b o (fun z => by have := Heap.lt_size e; rw [List.mem_singleton.mp z] at this; exact Nat.lt_irrefl _ this) (Heap.get?_push_of_some _ e)
theorem call_all (hc : X.calm = true) : CallR X (.builtin "all") (rAll X.K) := by
  intro pins s σ H xs us Q I rv h
  obtain ⟨k, p, ys, rfl, hs, hf, q⟩ := h
  obtain ⟨u, rfl, ru⟩ := rv.one
  cases ru
  obtain ⟨its, ri, sq, hz⟩ := I.sqk hs
  have hh : X.A.in1.handled = none := I.ok.hd hc
  refine call_all_walk (src_iter sq ?_)
  refine ⟨s.heap.objs.size, _, _, _, _, _, fun i => trV (ys.getD i .non), rfl, walks_at (k := k) (l := p) (items := its.toArray) hh (l_ne_new sq), it_new sq, ?_, fun h' tk hk => ?_⟩
  · intro i v s' Q' E' hv hq
    have hv' : its[i]? = some v := by simpa using hv
    obtain ⟨hi, _⟩ := List.getElem?_eq_some_iff.mp hv'
    have hi' : i < ys.length := by rw [ri.length]; exact hi
    have hy : ys[i]? = some ys[i] := List.getElem?_eq_getElem hi'
    obtain ⟨v', e1, e2⟩ := ri.get hy
    rw [hv'] at e1
    cases e1
    refine truthy_flat e2 (List.all_eq_true.mp hf _ (List.getElem_mem hi')) ?_
    simpa [List.getD_eq_getElem?_getD, hy] using hq
  · have e : (List.range its.toArray.size).all (fun i => trV (ys.getD i .non)) = ys.all trV := by
      rw [List.size_toArray, ← ri.length]
      exact range_all ys trV .non
    rw [e]
    exact ⟨.bl _, H, I.kept (keep_new hk), rfl, q⟩
def rIsi (K : PySem.W.Frag) : RL := fun xs H Q => ∃ x n t b, xs = [x, .ty n] ∧ TyOf K H x t ∧ PySem.W.kitOne K t (.type n) = some b ∧ Q (.bl b) H
theorem call_isi : CallR X (.builtin "isinstance") (rIsi X.K) := by
  intro pins s σ H xs us Q I rv h
  obtain ⟨x, n, t, b, rfl, ty, e, q⟩ := h
  obtain ⟨u, v, rfl, ru, rv'⟩ := rv.two
  cases rv'
  exact isinst_ok I ru ty e fun tk => ⟨.bl b, H, I.tok tk, rfl, q⟩
end
theorem bb_len : bootBuiltins "len" = some (.builtin "len") := boot_len
theorem bb_zip : bootBuiltins "zip" = some (.type "zip") := by kernel_rfl
theorem bb_all : bootBuiltins "all" = some (.builtin "all") := by kernel_rfl
theorem bb_isinstance : bootBuiltins "isinstance" = some (.builtin "isinstance") := by kernel_rfl
theorem bb_tuple : bootBuiltins "tuple" = some (.type "tuple") := by kernel_rfl
theorem bb_int : bootBuiltins "int" = some (.type "int") := by kernel_rfl
theorem bb_bool : bootBuiltins "bool" = some (.type "bool") := by kernel_rfl
theorem bb_str : bootBuiltins "str" = some (.type "str") := by kernel_rfl
end L2
set_option Elab.async false
set_option linter.all false
set_option maxRecDepth 100000
namespace L2
open PySem PySem.Spec PyProof.Rows
theorem comp_by {src : List (Option Nat)} {g : TG} {tt : TT} {te : TE} {σ : St} {Q : VK} {J : It} {H1 : Hp} (n : Nat) (Pv : Nat → List V → Hp → Prop) (h0 : Pv 0 [] H1)
    (hs : ∀ i ys H, i < n → Pv i ys H → J.go i H ∧ ys.length < sizeLine ∧ ∀ x H', J.yld i H x H' → g x (blkSt src σ) H' fun σ2 H2 => Sub (blkSt src σ) σ2 ∧ tt σ2 H2 fun b H3 => if b = true then te σ2 H3 fun v H4 => Pv (i + 1) (ys ++ [v]) H4 else Pv (i + 1) ys H3)
    (hd : ∀ ys H, Pv n ys H → J.stop n H ∧ ys.length ≤ sizeLine ∧ ∀ p, H p = none → Q (.ref p) (upd H p (.lst ys))) : CompW src g tt te σ Q J H1 := by
  refine ⟨fun i m ys H => m = n - i ∧ i ≤ n ∧ Pv i ys H, ⟨n, by omega, Nat.zero_le _, h0⟩, ?_⟩
  rintro i m ys H ⟨rfl, hi, p⟩
  by_cases hlt : i < n
  · obtain ⟨q1, q2, q3⟩ := hs i ys H hlt p
    exact .inr ⟨q1, q2, Pv (i + 1), fun zs H' p' => ⟨n - (i + 1), by omega, rfl, hlt, p'⟩, q3⟩
  · have e : i = n := by omega
    subst e
    exact .inl (hd ys H p)
theorem comp_range {src : List (Option Nat)} {g : TG} {tt : TT} {te : TE} {σ : St} {Q : VK} {lo : Int} {n : Nat} {H1 : Hp} (hn : n ≤ sizeLine) (Pv : Nat → List V → Hp → Prop) (h0 : Pv 0 [] H1)
    (hl : ∀ i ys H, Pv i ys H → ys.length ≤ i)
    (hs : ∀ i ys H, i < n → Pv i ys H → g (.int (lo + i)) (blkSt src σ) H fun σ2 H2 => Sub (blkSt src σ) σ2 ∧ tt σ2 H2 fun b H3 => if b = true then te σ2 H3 fun v H4 => Pv (i + 1) (ys ++ [v]) H4 else Pv (i + 1) ys H3)
    (hd : ∀ ys H, Pv n ys H → ∀ p, H p = none → Q (.ref p) (upd H p (.lst ys))) : CompW src g tt te σ Q (Itr lo n) H1 :=
  comp_by n Pv h0 (fun i ys H hi p => ⟨hi, by have := hl i ys H p; omega, fun x H' y => by obtain ⟨e, y⟩ := y; subst e y; exact hs i ys _ hi p⟩)
    fun ys H p => ⟨Nat.le_refl _, Nat.le_trans (hl n ys H p) hn, hd ys H p⟩
theorem comp_list {K : PySem.W.Frag} {src : List (Option Nat)} {g : TG} {tt : TT} {te : TE} {σ : St} {Q : VK} {a : Addr} {xs : List V} {H1 : Hp} (hn : xs.length ≤ sizeLine) (Pv : Nat → List V → Hp → Prop) (h0 : Pv 0 [] H1)
    (hq : ∀ i ys H, i ≤ xs.length → Pv i ys H → SqL K H a xs ∧ ys.length ≤ i)
    (hs : ∀ i x ys H, xs[i]? = some x → Pv i ys H → g x (blkSt src σ) H fun σ2 H2 => Sub (blkSt src σ) σ2 ∧ tt σ2 H2 fun b H3 => if b = true then te σ2 H3 fun v H4 => Pv (i + 1) (ys ++ [v]) H4 else Pv (i + 1) ys H3)
    (hd : ∀ ys H, Pv xs.length ys H → ∀ p, H p = none → Q (.ref p) (upd H p (.lst ys))) : CompW src g tt te σ Q (Itl K a) H1 :=
  comp_by xs.length Pv h0 (fun i ys H hi p => by
      obtain ⟨q1, q2⟩ := hq i ys H (Nat.le_of_lt hi) p
      refine ⟨⟨xs, xs[i], q1, List.getElem?_eq_getElem hi⟩, by omega, fun x H' y => ?_⟩
      obtain ⟨e, y⟩ := y
      subst e
      exact hs i x ys _ (y xs q1) p)
    fun ys H p => by
      obtain ⟨q1, q2⟩ := hq _ ys H (Nat.le_refl _) p
      exact ⟨⟨xs, q1, Nat.le_refl _⟩, by omega, hd ys H p⟩
theorem comp_tup {K : PySem.W.Frag} {src : List (Option Nat)} {g : TG} {tt : TT} {te : TE} {σ : St} {Q : VK} {a : Addr} {xs : List V} {H1 : Hp} (hn : xs.length ≤ sizeLine) (Pv : Nat → List V → Hp → Prop) (h0 : Pv 0 [] H1)
    (hq : ∀ i ys H, i ≤ xs.length → Pv i ys H → SqT K H a xs ∧ ys.length ≤ i)
    (hs : ∀ i x ys H, xs[i]? = some x → Pv i ys H → g x (blkSt src σ) H fun σ2 H2 => Sub (blkSt src σ) σ2 ∧ tt σ2 H2 fun b H3 => if b = true then te σ2 H3 fun v H4 => Pv (i + 1) (ys ++ [v]) H4 else Pv (i + 1) ys H3)
    (hd : ∀ ys H, Pv xs.length ys H → ∀ p, H p = none → Q (.ref p) (upd H p (.lst ys))) : CompW src g tt te σ Q (Itt K a) H1 :=
  comp_by xs.length Pv h0 (fun i ys H hi p => by
      obtain ⟨q1, q2⟩ := hq i ys H (Nat.le_of_lt hi) p
      refine ⟨⟨xs, xs[i], q1, List.getElem?_eq_getElem hi⟩, by omega, fun x H' y => ?_⟩
      obtain ⟨e, y⟩ := y
      subst e
      exact hs i x ys _ (y xs q1) p)
    fun ys H p => by
      obtain ⟨q1, q2⟩ := hq _ ys H (Nat.le_refl _) p
      exact ⟨⟨xs, q1, Nat.le_refl _⟩, by omega, hd ys H p⟩
theorem comp_zip {K : PySem.W.Frag} {src : List (Option Nat)} {g : TG} {tt : TT} {te : TE} {σ : St} {Q : VK} {k1 k2 : Bool} {a b : Addr} {xs zs : List V} {H1 : Hp} (hn : xs.length ≤ sizeLine) (Pv : Nat → List V → Hp → Prop) (h0 : Pv 0 [] H1)
    (hq : ∀ i ys H, i ≤ xs.length → i ≤ zs.length → Pv i ys H → SqK k1 K H a xs ∧ SqK k2 K H b zs ∧ ys.length ≤ i)
    (hs : ∀ i x z ys H p, xs[i]? = some x → zs[i]? = some z → Pv i ys H → H p = none → g (.ref p) (blkSt src σ) (upd H p (.tup [x, z])) fun σ2 H2 => Sub (blkSt src σ) σ2 ∧ tt σ2 H2 fun b H3 => if b = true then te σ2 H3 fun v H4 => Pv (i + 1) (ys ++ [v]) H4 else Pv (i + 1) ys H3)
    (hd : ∀ ys H, Pv (min xs.length zs.length) ys H → ∀ p, H p = none → Q (.ref p) (upd H p (.lst ys))) : CompW src g tt te σ Q (Itz K k1 k2 a b) H1 :=
  comp_by (min xs.length zs.length) Pv h0 (fun i ys H hi p => by
      have hi1 : i < xs.length := by omega
      have hi2 : i < zs.length := by omega
      obtain ⟨q1, q2, q3⟩ := hq i ys H (by omega) (by omega) p
      refine ⟨⟨xs, zs, xs[i], zs[i], q1, q2, List.getElem?_eq_getElem hi1, List.getElem?_eq_getElem hi2⟩, by omega, fun x H' y => ?_⟩
      obtain ⟨pp, x', z', e, e2, e3, y1, y2⟩ := y
      subst e e3
      exact hs i x' z' ys _ pp (y1 xs q1) (y2 zs q2) p e2)
    fun ys H p => by
      obtain ⟨q1, q2, q3⟩ := hq _ ys H (by omega) (by omega) p
      exact ⟨⟨xs, zs, q1, q2, by omega⟩, by omega, hd ys H p⟩
theorem for_zip {K : PySem.W.Frag} {k1 k2 : Bool} {a b : Addr} {xs zs : List V} {g : TG} {tb : TS} {D : Ends} {σ : St} {H : Hp} (Pv : Nat → St → Hp → Prop) (h0 : Pv 0 σ H)
    (hl : ∀ i σ H, i ≤ xs.length → i ≤ zs.length → Pv i σ H → SqK k1 K H a xs ∧ SqK k2 K H b zs)
    (hs : ∀ i x z σ H p, xs[i]? = some x → zs[i]? = some z → Pv i σ H → H p = none → g (.ref p) σ (upd H p (.tup [x, z])) fun σ2 H2 => tb { D with nx := Pv (i + 1), ct := Pv (i + 1), bk := D.nx } σ2 H2) (hd : ∀ σ H, Pv (min xs.length zs.length) σ H → D.nx σ H) :
    ∃ W : Nat → Nat → St → Hp → Prop, (∃ m, W 0 m σ H) ∧ ∀ i m σ H, W i m σ H →
      ((Itz K k1 k2 a b).stop i H ∧ D.nx σ H) ∨ ((Itz K k1 k2 a b).go i H ∧ ∃ N : St → Hp → Prop, (∀ σ' H', N σ' H' → ∃ m', m' < m ∧ W (i + 1) m' σ' H') ∧ ∀ x H', (Itz K k1 k2 a b).yld i H x H' → g x σ H' fun σ2 H2 => tb { D with nx := N, ct := N, bk := D.nx } σ2 H2) := by
  refine ⟨fun i m σ H => m = min xs.length zs.length - i ∧ i ≤ min xs.length zs.length ∧ Pv i σ H, ⟨_, rfl, Nat.zero_le _, h0⟩, ?_⟩
  rintro i m σ H ⟨rfl, hi, p⟩
  obtain ⟨q1, q2⟩ := hl i σ H (by omega) (by omega) p
  by_cases hlt : i < min xs.length zs.length
  · have hi1 : i < xs.length := by omega
    have hi2 : i < zs.length := by omega
    refine .inr ⟨⟨xs, zs, xs[i], zs[i], q1, q2, List.getElem?_eq_getElem hi1, List.getElem?_eq_getElem hi2⟩, Pv (i + 1), fun σ' H' p' => ⟨_, by omega, rfl, hlt, p'⟩, fun x H' y => ?_⟩
    obtain ⟨pp, x', z', e, e2, e3, y1, y2⟩ := y
    subst e e3
    exact hs i x' z' σ _ pp (y1 xs q1) (y2 zs q2) p e2
  · have e : i = min xs.length zs.length := by omega
    subst e
    exact .inl ⟨⟨xs, zs, q1, q2, by omega⟩, hd σ H p⟩
structure Ok (P : Program) (w : World) (K : PySem.W.Frag) (mg : Str → Option Value) (base : Heap) (x : Str) (k : Nat) (ps : List Str) (sp : Sp) : Prop where
  ex : ∃ f fd, mg x = some (.ref f) ∧ PySem.W.keepIn K (.ref f) = true ∧ Binds K fd ps [] ∧ FnOk P w K mg base CX0 k f fd ps sp
structure FunAt (K : PySem.W.Frag) (mg : Str → Option Value) (x : Str) (st : Stmt) (ps : List Str) : Prop where
  ex : ∃ f fd, mg x = some (.ref f) ∧ Fun K x x st f fd ∧ Binds K fd ps []
section
variable {P : Program} {w : World} {K : PySem.W.Frag} {mg : Str → Option Value} {base : Heap}
theorem Ok.imp {x : Str} {k : Nat} {ps : List Str} {sp sp' : Sp} (O : Ok P w K mg base x k ps sp) (h : ∀ vs H Q E, sp' vs H Q E → sp vs H Q E) : Ok P w K mg base x k ps sp' := by
  obtain ⟨f, fd, h1, h2, h3, h4⟩ := O.ex
  exact ⟨f, fd, h1, h2, h3, h4.imp h⟩
theorem FunAt.ok {x : Str} {st : Stmt} {N ps : List Str} {k : Nat} {sp : Sp} (F : FunAt K mg x st ps) (S : FnScope N ps (defScope st)) (len : ∀ vs H Q E, sp vs H Q E → vs.length = ps.length)
    (hbody : ∀ (cdv : Value) (f : Addr) (A : Around) (outer : List Env) (s : Shared) (H : Hp) (vs : List V) (Q : VK) (E : XK), Room k (A.deeper (envOfC x (defScope st) s.heap.objs.size f cdv)) → sp vs H Q E →
      ∃ t, PSs (cxOf CX0 P w K mg base N x (defScope st) f cdv A outer s H E).nox (defBody st) t ∧ t { nx := fun _ H' => Q .non H', rt := Q } (start N vs) H) : Ok P w K mg base x (k + 1) ps sp := by
  obtain ⟨f, fd, h1, h2, h3⟩ := F.ex
  exact ⟨f, fd, h1, h2.kp, h3, h2.ok S len fun cdv => hbody cdv f⟩
end
section
variable {X : Cx} {k : Nat} {ps : List Str} {sp : Sp} {x : Str} {p pos : Pos} {e : Expr} {es : List Expr} {t : TA}
theorem pe_callO (O : Ok X.prog X.w X.K X.mg X.base x k ps sp) (hr : Room k X.A) (hg : Gl X x) (ha : PA X (e :: es) t) (hdb : (x == ("__debug__" : Str)) = false := by decide)
    (he : starEach (e :: es) X.env = (false, eval e X.env) :: starEach es X.env := by rfl) (hpl : (backTo pos (starEach es X.env)).any (·.1) = false := by rfl) : PE X (.Call (.Name x p) (e :: es) [] pos) (tCall sp [] E0 t) := by
  obtain ⟨f, fd, h1, h2, h3, h4⟩ := O.ex
  exact pe_call h4 hr hg h1 h2 h3 .nil pass0 ha hdb he hpl
end
end L2
set_option Elab.async false
set_option linter.all false
set_option maxRecDepth 100000
namespace L2
open PySem PySem.Spec PyProof.Rows
inductive EqV (K : PySem.W.Frag) (H : Hp) : Nat → V → V → Bool → Prop
  | flat {n : Nat} {x y : V} (fx : flatV x = true) (fy : flatV y = true) : EqV K H n x y (eqV x y)
  | tup {n : Nat} {a b : Addr} {xs ys : List V} (e : Nat → Bool) (ha : SqT K H a xs) (hb : SqT K H b ys) (he : ∀ j x y, xs[j]? = some x → ys[j]? = some y → EqV K H n x y (e j)) :
      EqV K H (n + 1) (.ref a) (.ref b) ((List.range (min xs.length ys.length)).all e && xs.length == ys.length)
  | lst {n : Nat} {a b : Addr} {xs ys : List V} (e : Nat → Bool) (ha : SqL K H a xs) (hb : SqL K H b ys) (he : ∀ j x y, xs[j]? = some x → ys[j]? = some y → EqV K H n x y (e j)) :
      EqV K H (n + 1) (.ref a) (.ref b) ((List.range (min xs.length ys.length)).all e && xs.length == ys.length)
theorem eqV_refl : ∀ {x : V}, flatV x = true → eqV x x = true
  | .non, _ => rfl
  | .bl b, _ => by simp [eqV]
  | .int i, _ => by simp [eqV]
  | .str y, _ => by simp [eqV]
  | .byt _, h => by cases h
  | .flt _, h => by cases h
  | .ref _, h => by cases h
  | .ty _, h => by cases h
section
variable {X : Cx} {pins : List (Addr × Obj)} {σ : St} {H : Hp} {s : Shared}
theorem EqV.same {n : Nat} {x y : V} {b : Bool} (I : Inv X pins σ H s) (h : EqV X.K H n x y b) : x = y → b = true := by
  induction h with
  | flat fx fy => rintro rfl; exact eqV_refl fx
  | tup e ha hb he ih =>
    intro z
    cases z
    have q := I.tuple_inj ha hb
    subst q
    simp only [Nat.min_self, Bool.and_eq_true, beq_self_eq_true, and_true, List.all_eq_true, List.mem_range]
    intro j hj
    exact ih j _ _ (List.getElem?_eq_getElem hj) (List.getElem?_eq_getElem hj) rfl
  | lst e ha hb he ih =>
    intro z
    cases z
    have q := I.list_inj ha hb
    subst q
    simp only [Nat.min_self, Bool.and_eq_true, beq_self_eq_true, and_true, List.all_eq_true, List.mem_range]
    intro j hj
    exact ih j _ _ (List.getElem?_eq_getElem hj) (List.getElem?_eq_getElem hj) rfl
theorem vals_rel {xs : List V} {us : List Value} {j : Nat} {u : Value} (r : Vals xs us) (h : us[j]? = some u) : ∃ x, xs[j]? = some x ∧ RelV x u := by
  obtain ⟨hj, _⟩ := List.getElem?_eq_some_iff.mp h
  have hj' : j < xs.length := by rw [r.length]; exact hj
  have hx : xs[j]? = some xs[j] := List.getElem?_eq_getElem hj'
  obtain ⟨u', e, q⟩ := r.get hx
  rw [h] at e
  cases e
  exact ⟨_, hx, q⟩
theorem EqV.at {n : Nat} {x y : V} {b : Bool} (I : Inv X pins σ H s) (h : EqV X.K H n x y b) : ∀ {A : Around} {u v : Value}, A.units + n < cLine → RelV x u → RelV y v → SeqAt.EqAt A s u v b := by
  induction h with
  | flat fx fy => intro A u v _ ru rv; exact eqAt_V ru rv fx fy
  | @tup n a b xs ys e ha hb he ih =>
    intro A u v hu ru rv
    cases ru
    cases rv
    by_cases hab : a = b
    · have := (EqV.tup e ha hb he).same I (by rw [hab])
      rw [this, hab]
      exact SeqAt.EqAt.same _
    · obtain ⟨us, r1, p1, _⟩ := I.tuple ha
      obtain ⟨ws, r2, p2, _⟩ := I.tuple hb
      rw [r1.length, r2.length]
      refine SeqAt.EqAt.of_refs hab ?_
      have := SeqAt.RcAt.tuples (A := A) (s := s) (e := e) (show s.heap.IsTuple a us.toArray from p1) (show s.heap.IsTuple b ws.toArray from p2) (by omega) (fun j h1 h2 => ?_)
      · simpa using this
      · have h1' : us[j]? = some us.toArray[j] := by simp at h1 ⊢
        have h2' : ws[j]? = some ws.toArray[j] := by simp at h2 ⊢
        obtain ⟨x, ex, rx⟩ := vals_rel r1 h1'
        obtain ⟨y, ey, ry⟩ := vals_rel r2 h2'
        exact ih j x y ex ey (by show A.units + 1 + n < cLine; omega) rx ry
  | @lst n a b xs ys e ha hb he ih =>
    intro A u v hu ru rv
    cases ru
    cases rv
    by_cases hab : a = b
    · have := (EqV.lst e ha hb he).same I (by rw [hab])
      rw [this, hab]
      exact SeqAt.EqAt.same _
    · obtain ⟨us, r1, p1, _⟩ := I.list ha
      obtain ⟨ws, r2, p2, _⟩ := I.list hb
      rw [r1.length, r2.length]
      refine SeqAt.EqAt.of_refs hab ?_
      by_cases hl : us.length = ws.length
      · have := SeqAt.RcAt.lists (A := A) (s := s) (e := e) p1.isList p2.isList (by simpa using hl) (by omega) (fun j h1 h2 => ?_)
        · simpa [hl] using this
        · have h1' : us[j]? = some us.toArray[j] := by simp at h1 ⊢
          have h2' : ws[j]? = some ws.toArray[j] := by simp at h2 ⊢
          obtain ⟨x, ex, rx⟩ := vals_rel r1 h1'
          obtain ⟨y, ey, ry⟩ := vals_rel r2 h2'
          exact ih j x y ex ey (by show A.units + 1 + n < cLine; omega) rx ry
      · have := SeqAt.RcAt.lists_lengths (A := A) (s := s) p1.isList p2.isList (by simpa using hl) (by omega)
        have e0 : (us.length == ws.length) = false := by simpa using hl
        rw [e0, Bool.and_false]
        exact this
end
def rEqD (K : PySem.W.Frag) (neg : Bool) : R2 := fun x y H Q => ∃ n b, n ≤ 50 ∧ EqV K H n x y b ∧ (∃ a c, x = .ref a ∧ y = .ref c) ∧ Q (.bl (if neg then !b else b)) H
section
variable {X : Cx}
theorem op_eqD (hu : X.A.units + 60 < cLine) : OpR X (compareOp .Eq) (rEqD X.K false) := by
  intro pins s σ H x y v u Q I rx ry h
  obtain ⟨n, b, hn, he, ⟨a, c, rfl, rfl⟩, q⟩ := h
  cases rx
  cases ry
  show wpAny _ _ (richCompare .Eq (.ref a) (.ref c)) _ _ s
  have key : SeqAt.RcAt X.A s (.ref a) (.ref c) b := by
    cases he with
    | flat fx fy => cases fx
    | @tup n _ _ xs ys e ha hb he =>
      obtain ⟨us, r1, p1, _⟩ := I.tuple ha
      obtain ⟨ws, r2, p2, _⟩ := I.tuple hb
      rw [r1.length, r2.length]
      have := SeqAt.RcAt.tuples (A := X.A) (s := s) (e := e) (show s.heap.IsTuple a us.toArray from p1) (show s.heap.IsTuple c ws.toArray from p2) (by omega) (fun j h1 h2 => ?_)
      · simpa using this
      · have h1' : us[j]? = some us.toArray[j] := by simp at h1 ⊢
        have h2' : ws[j]? = some ws.toArray[j] := by simp at h2 ⊢
        obtain ⟨x, ex, rx⟩ := vals_rel r1 h1'
        obtain ⟨y, ey, ry⟩ := vals_rel r2 h2'
        exact (he j x y ex ey).at I (by show X.A.units + 1 + n < cLine; omega) rx ry
    | @lst n _ _ xs ys e ha hb he =>
      obtain ⟨us, r1, p1, _⟩ := I.list ha
      obtain ⟨ws, r2, p2, _⟩ := I.list hb
      rw [r1.length, r2.length]
      by_cases hl : us.length = ws.length
      · have := SeqAt.RcAt.lists (A := X.A) (s := s) (e := e) p1.isList p2.isList (by simpa using hl) (by omega) (fun j h1 h2 => ?_)
        · simpa [hl] using this
        · have h1' : us[j]? = some us.toArray[j] := by simp at h1 ⊢
          have h2' : ws[j]? = some ws.toArray[j] := by simp at h2 ⊢
          obtain ⟨x, ex, rx⟩ := vals_rel r1 h1'
          obtain ⟨y, ey, ry⟩ := vals_rel r2 h2'
          exact (he j x y ex ey).at I (by show X.A.units + 1 + n < cLine; omega) rx ry
      · have := SeqAt.RcAt.lists_lengths (A := X.A) (s := s) p1.isList p2.isList (by simpa using hl) (by omega)
        have e0 : (us.length == ws.length) = false := by simpa using hl
        rw [e0, Bool.and_false]
        exact this
  exact key _ _ _ _ ⟨.bl _, H, I, rfl, q⟩
theorem op_neD (hu : X.A.units + 60 < cLine) : OpR X (compareOp .NotEq) (rEqD X.K true) := by
  intro pins s σ H x y v u Q I rx ry h
  obtain ⟨n, b, hn, he, ⟨a, c, rfl, rfl⟩, q⟩ := h
  cases rx
  cases ry
  show wpAny _ _ (richCompare .NotEq (.ref a) (.ref c)) _ _ s
  have key : SeqAt.RcNeAt X.A s (.ref a) (.ref c) (!b) := by
    cases he with
    | flat fx fy => cases fx
    | @tup n _ _ xs ys e ha hb he =>
      obtain ⟨us, r1, p1, _⟩ := I.tuple ha
      obtain ⟨ws, r2, p2, _⟩ := I.tuple hb
      rw [r1.length, r2.length]
      have := SeqAt.RcNeAt.tuples (A := X.A) (s := s) (e := e) (show s.heap.IsTuple a us.toArray from p1) (show s.heap.IsTuple c ws.toArray from p2) (by omega) (fun j h1 h2 => ?_)
      · simpa using this
      · have h1' : us[j]? = some us.toArray[j] := by simp at h1 ⊢
        have h2' : ws[j]? = some ws.toArray[j] := by simp at h2 ⊢
        obtain ⟨x, ex, rx⟩ := vals_rel r1 h1'
        obtain ⟨y, ey, ry⟩ := vals_rel r2 h2'
        exact (he j x y ex ey).at I (by show X.A.units + 1 + n < cLine; omega) rx ry
    | @lst n _ _ xs ys e ha hb he =>
      obtain ⟨us, r1, p1, _⟩ := I.list ha
      obtain ⟨ws, r2, p2, _⟩ := I.list hb
      rw [r1.length, r2.length]
      by_cases hl : us.length = ws.length
      · have := SeqAt.RcNeAt.lists (A := X.A) (s := s) (e := e) p1.isList p2.isList (by simpa using hl) (by omega) (fun j h1 h2 => ?_)
        · simpa [hl] using this
        · have h1' : us[j]? = some us.toArray[j] := by simp at h1 ⊢
          have h2' : ws[j]? = some ws.toArray[j] := by simp at h2 ⊢
          obtain ⟨x, ex, rx⟩ := vals_rel r1 h1'
          obtain ⟨y, ey, ry⟩ := vals_rel r2 h2'
          exact (he j x y ex ey).at I (by show X.A.units + 1 + n < cLine; omega) rx ry
      · have := SeqAt.RcNeAt.lists_lengths (A := X.A) (s := s) p1.isList p2.isList (by simpa using hl) (by omega)
        have e0 : (us.length == ws.length) = false := by simpa using hl
        rw [e0, Bool.and_false]
        exact this
  exact key _ _ _ _ ⟨.bl _, H, I, rfl, q⟩
theorem all_int {ns ms : List Int} : ((List.range (min ns.length ms.length)).all (fun j => decide (ns.getD j 0 = ms.getD j 0)) && ns.length == ms.length) = decide (ns = ms) := by
  rw [Bool.eq_iff_iff]
  simp only [Bool.and_eq_true, List.all_eq_true, List.mem_range, decide_eq_true_eq, beq_iff_eq]
  constructor
  · rintro ⟨h1, h2⟩
    refine List.ext_getElem h2 fun i a b => ?_
    have := h1 i (by omega)
    simpa [List.getD_eq_getElem?_getD, a, b] using this
  · rintro rfl
    exact ⟨fun _ _ => rfl, rfl⟩
theorem int_at {ns : List Int} {j : Nat} {x : V} (h : (ns.map V.int)[j]? = some x) : x = .int (ns.getD j 0) ∧ j < ns.length := by
  rw [List.getElem?_map] at h
  cases e : ns[j]? with
  | none => rw [e] at h; cases h
  | some z =>
    rw [e] at h
    obtain ⟨hj, _⟩ := List.getElem?_eq_some_iff.mp e
    exact ⟨by rw [List.getD_eq_getElem?_getD, e]; exact (Option.some.inj h).symm, hj⟩
theorem EqV.ints {K : PySem.W.Frag} {H : Hp} {k : Bool} {a b : Addr} {ns ms : List Int} (ha : SqK k K H a (ns.map V.int)) (hb : SqK k K H b (ms.map V.int)) : EqV K H 1 (.ref a) (.ref b) (decide (ns = ms)) := by
  have step : ∀ j x y, (ns.map V.int)[j]? = some x → (ms.map V.int)[j]? = some y → EqV K H 0 x y (decide (ns.getD j 0 = ms.getD j 0)) := fun j x y hx hy => by
    obtain ⟨rfl, _⟩ := int_at hx
    obtain ⟨rfl, _⟩ := int_at hy
    have := EqV.flat (K := K) (H := H) (n := 0) (x := .int (ns.getD j 0)) (y := .int (ms.getD j 0)) rfl rfl
    rw [show eqV (.int (ns.getD j 0)) (.int (ms.getD j 0)) = decide (ns.getD j 0 = ms.getD j 0) from rfl] at this
    exact this
  rw [← all_int]
  cases k
  · have := EqV.lst (fun j => decide (ns.getD j 0 = ms.getD j 0)) ha hb step
    simpa using this
  · have := EqV.tup (fun j => decide (ns.getD j 0 = ms.getD j 0)) ha hb step
    simpa using this
end
end L2
set_option Elab.async false
set_option linter.all false
set_option maxRecDepth 100000
namespace L2
open PySem PySem.Spec PyProof.Rows
open PySem.AutoSeq1 (wpAny_loadPart')
section
variable {X : Cx}
end
end L2
set_option Elab.async false
set_option linter.all false
set_option maxRecDepth 100000
namespace L2
open PySem PySem.Spec PyProof.Rows
section
variable {X : Cx} {pos : Pos}
theorem pg_tupK (K : PySem.W.Frag) {es : List Expr} {k : Nat} {t : TGs} {n : Nat} (hc : X.calm = true) (h : PGs X es t) (hK : X.K = K := by rfl)
    (hn : (assignEach es X.env).length = n := by rfl) (hst : (assignEach es X.env).findIdx? (·.1) = none := by rfl) : PG X (.Tuple es k pos) (gTup K n t) := by
  subst hK; exact pg_tup hc h hn hst
theorem pi_listK (K : PySem.W.Frag) {tg l : Expr} {tl : TE} (hl : PE X l tl) (hK : X.K = K := by rfl) : PI X tg l (iList K tl) := by subst hK; exact pi_list hl
theorem pi_tupK (K : PySem.W.Frag) {tg l : Expr} {tl : TE} (hl : PE X l tl) (hK : X.K = K := by rfl) : PI X tg l (iTup K tl) := by subst hK; exact pi_tup hl
theorem pi_zipK (K : PySem.W.Frag) {es : List Expr} {kt : Nat} {tp : Pos} {a b : Expr} {ta : TA} {p pos : Pos} (hg : Gl X "zip") (hm : X.mg "zip" = none) (ha : PA X [a, b] ta) (hK : X.K = K := by rfl)
    (hs : starEach [a, b] X.env = [(false, eval a X.env), (false, eval b X.env)] := by rfl) (hs2 : starEach [b] X.env = [(false, eval b X.env)] := by rfl) :
    PI X (.Tuple es kt tp) (.Call (.Name "zip" p) [a, b] [] pos) (iZip K ta) := by subst hK; exact pi_zip hg hm ha bb_zip hs hs2
def tTru (K : PySem.W.Frag) (ta : TE) : TT := fun σ H Q => ta σ H fun x H' => ∃ k, TruV K x H' k ∧ Q k H'
theorem pt_truthK (K : PySem.W.Frag) {a : Expr} {ta : TE} (ha : PE X a ta) (he : ∀ whole, isTrue a X.env whole = (do let v ← whole; standAt a.pos; holding [v] (truthy v))) (hK : X.K = K := by rfl) : PT X a (tTru K ta) := by
  subst hK; exact pt_truth ha he
theorem ix_listK (K : PySem.W.Frag) (hK : X.K = K := by rfl) : IxR X (rIxL K) := by subst hK; exact ix_list
theorem ix_tupK (K : PySem.W.Frag) (hK : X.K = K := by rfl) : IxR X (rIxT K) := by subst hK; exact ix_tup
theorem sl_listK (K : PySem.W.Frag) (hK : X.K = K := by rfl) : SlR X (rSlL K) := by subst hK; exact sl_list
theorem op_inK (K : PySem.W.Frag) (hK : X.K = K := by rfl) : OpR X (compareOp .In) (rIn K false) := by subst hK; exact op_in_seq
theorem op_neK (K : PySem.W.Frag) (hu : X.A.units + 60 < cLine) (hK : X.K = K := by rfl) : OpR X (compareOp .NotEq) (rEqD K true) := by subst hK; exact op_neD hu
theorem call_allK (K : PySem.W.Frag) (hc : X.calm = true) (hK : X.K = K := by rfl) : CallR X (.builtin "all") (rAll K) := by subst hK; exact call_all hc
theorem call_isiK (K : PySem.W.Frag) (hK : X.K = K := by rfl) : CallR X (.builtin "isinstance") (rIsi K) := by subst hK; exact call_isi
def rLen (K : PySem.W.Frag) : RL := fun xs H Q => ∃ p ys, xs = [.ref p] ∧ (SqL K H p ys ∨ SqT K H p ys) ∧ Q (.int ys.length) H
def rTuple (K : PySem.W.Frag) : RL := fun xs H Q => ∃ p ys, xs = [.ref p] ∧ ((SqL K H p ys ∧ ∀ l, H l = none → Q (.ref l) (upd H l (.tup ys))) ∨ (SqT K H p ys ∧ Q (.ref p) H))
theorem call_lenK (K : PySem.W.Frag) (hK : X.K = K := by rfl) : CallR X (.builtin "len") (rLen K) := by subst hK; exact call_len_seq
theorem call_tupleK (K : PySem.W.Frag) (hK : X.K = K := by rfl) : CallR X (.type "tuple") (rTuple K) := by subst hK; exact call_tuple_of
def rMin : RL := fun xs H Q => ∃ i j, xs = [.int i, .int j] ∧ Q (.int (if j < i then j else i)) H
def rMax : RL := fun xs H Q => ∃ i j, xs = [.int i, .int j] ∧ Q (.int (if j > i then j else i)) H
def rInt : RL := fun xs H Q => (∃ i, xs = [.int i] ∧ Q (.int i) H) ∨ ∃ k, xs = [.bl k] ∧ Q (.int (if k then 1 else 0)) H
theorem call_intK : CallR X (.type "int") rInt := call_int1
variable {o e : Expr} {es : List Expr} {to : TE} {t : TA} {name : Str} {apos cpos : Pos} {T id : String} {r : V → List V → Hp → VK → Prop}
theorem pe_bmK (K : PySem.W.Frag) (pa : PlainAttrs T) (slot : Slot T name id) (hty : typeOf (.builtin id) = pure (.type "method_descriptor")) (hm : MtR X id r) (ho : PE X o to) (ha : PA X (e :: es) t) (hK : X.K = K := by rfl)
    (hbase : attributeBase o name X.env (eval o X.env) = eval o X.env := by rfl)
    (hfew : ((backTo cpos (starEach (e :: es) X.env)).all (fun x => !x.1) && (backToKw cpos (keywordEach [] X.env)).all (fun x => x.1.isSome)
      && decide ((e :: es).length + ([] : List Keyword).length + (if ([] : List Keyword).isEmpty then 0 else 1) < 30)) = true := by rfl)
    (hline : (apos.endLine == cpos.line) = true := by rfl) (hs : starEach (e :: es) X.env = (false, eval e X.env) :: starEach es X.env := by rfl) (hplain : (backTo cpos (starEach es X.env)).any (·.1) = false := by rfl) :
    PE X (.Call (.Attribute o name apos) (e :: es) [] cpos) (tBM K T r to t) := by subst hK; exact pe_bm pa slot hty hm ho ha hbase hfew hline hs hplain
end
end L2
set_option Elab.async false
set_option linter.all false
set_option maxRecDepth 100000
namespace L2
open PySem PySem.Spec PyProof.Rows
def IT (H : Hp) (v : V) (ns : List Int) : Prop := ∃ a, v = .ref a ∧ H a = some (.tup (ns.map V.int))
theorem IT.same {H H' : Hp} {v : V} {ns : List Int} (h : IT H v ns) (s : Same H H')   : IT H' v ns := let ⟨a, e, q⟩ := h; ⟨a, e, s a _ q⟩
theorem Same.upd {H H' : Hp} {p : Addr} {o : HO} (s : Same H H') (hp : H' p = none) : Same H (upd H' p o) := fun b u e => by
  rw [upd_ne (ne_of_none (s b u e) hp)]; exact s b u e
theorem upd_keep {H : Hp} {p b : Addr} {o u : HO} (hb : H b = some u) (hp : H p = none) : upd H p o b = some u := by rw [upd_ne (ne_of_none hb hp)]; exact hb
def Off (l : List Addr) (H H' : Hp) : Prop := ∀ b o, b ∉ l → H b = some o → H' b = some o
theorem Off.refl (l : List Addr) (H : Hp) : Off l H H := fun _ _ _ e => e
theorem Off.trans {l : List Addr} {H H1 H2 : Hp} (a : Off l H H1) (b : Off l H1 H2) : Off l H H2 := fun c o hc e => b c o hc (a c o hc e)
theorem Same.off {l : List Addr} {H H' : Hp} (s : Same H H') : Off l H H' := fun b o _ e => s b o e
theorem Off.upd {l : List Addr} {H H' : Hp} {p : Addr} {o : HO} (s : Off l H H') (hp : H' p = none) : Off l H (upd H' p o) := fun b u hb e => by
  rw [upd_ne (ne_of_none (s b u hb e) hp)]; exact s b u hb e
theorem Off.set {l : List Addr} {H H' : Hp} {p : Addr} {o : HO} (s : Off l H H') (hp : p ∈ l) : Off l H (L2.upd H' p o) := fun b u hb e => by
  rw [upd_ne (by rintro rfl; exact hb hp)]; exact s b u hb e
theorem get_int {ns : List Int} {i : Nat} {x : V} (h : (ns.map V.int)[i]? = some x) : ∃ z, ns[i]? = some z ∧ x = .int z := by
  rw [List.getElem?_map] at h
  cases e : ns[i]? with
  | none => rw [e] at h; cases h
  | some z => rw [e] at h; exact ⟨z, rfl, (Option.some.inj h).symm⟩
theorem Sub.one {caps : St} {v : V} : Sub (none :: caps) (some v :: caps) := ⟨rfl, fun j u e => by
  match j, e with
  | 0, e => cases e
  | j + 1, e => exact e⟩
theorem range_by {src : List (Option Nat)} {σ caps : St} {Q : VK} {n : Nat} {H : Hp} {tt : TT} {te : TE} (hn : n ≤ 1000) (hsrc : blkSt src σ = none :: caps) (Pv : Nat → List V → Hp → Prop) (h0 : Pv 0 [] H) (hl : ∀ i ys H, Pv i ys H → ys.length ≤ i)
    (hs : ∀ i ys H, i < n → Pv i ys H → tt (some (.int i) :: caps) H fun b H3 => if b = true then te (some (.int i) :: caps) H3 fun v H4 => Pv (i + 1) (ys ++ [v]) H4 else Pv (i + 1) ys H3)
    (hd : ∀ ys H, Pv n ys H → ∀ p, H p = none → Q (.ref p) (upd H p (.lst ys))) : CompW src (gName 0) tt te σ Q (Itr 0 n) H := by
  have hz : (1000 : Nat) ≤ sizeLine := by rw [sizeLine_eq]; decide
  refine comp_range (by omega) Pv h0 hl (fun i ys H hi p => ?_) hd
  show Sub _ ((blkSt src σ).set 0 (some (.int (0 + (i : Int))))) ∧ _
  rw [hsrc, Int.zero_add]
  exact ⟨Sub.one, hs i ys H hi p⟩
theorem Room.u60 {k : Nat} {A : Around} (r : Room k A) : A.units + 60 < cLine := by have := r.un; omega
theorem seq_via {t u : TS} {D : Ends} {σ : St} {H : Hp} (Pe : St → Hp → Prop) (fin : ∀ σ H, Pe σ H → u D σ H) (h : (∀ σ H, Pe σ H → u D σ H) → t { D with nx := u D } σ H) : tSeq t u D σ H := h fin
theorem v_nil {K : PySem.W.Frag} {neg : Bool} {te : TE} {σ : St} {H : Hp} {Q : VK} {b : Addr} {cs : List Int} (hte : ∀ Q' : VK, Q' (.ref b) H → te σ H Q') (hb : H b = some (.lst (cs.map V.int)))
    (q : ∀ p, H p = none → Q (.bl (if neg then !decide (cs = []) else decide (cs = []))) (upd H p (.lst []))) : tOp (rEqD K neg) te (tLst tNil) σ H Q :=
  hte _ ⟨Nat.zero_le _, fun p hp => ⟨1, _, by decide, EqV.ints (k := false) (ms := []) (SqL.of (upd_keep hb hp)) (SqL.of upd_same), ⟨_, _, rfl, rfl⟩, q p hp⟩⟩
theorem t_nil {K : PySem.W.Frag} {neg : Bool} {te : TE} {σ : St} {H : Hp} {Q : Bool → Hp → Prop} {b : Addr} {cs : List Int} (hte : ∀ Q' : VK, Q' (.ref b) H → te σ H Q') (hb : H b = some (.lst (cs.map V.int)))
    (q : ∀ p, H p = none → Q (if neg then !decide (cs = []) else decide (cs = [])) (upd H p (.lst []))) : tTest (tOp (rEqD K neg) te (tLst tNil)) σ H Q :=
  v_nil hte hb fun p hp => ⟨_, rfl, q p hp⟩
end L2
set_option Elab.async false
set_option linter.all false
set_option maxRecDepth 100000
namespace L2
open PySem PySem.Spec PyProof.Rows
structure JE (X : Cx) (e : Expr) (t : TE) : Prop where
  h : PE X e t
structure JT (X : Cx) (e : Expr) (t : TT) : Prop where
  h : PT X e t
structure JW (X : Cx) (e : Expr) (t : TT) : Prop where
  h : PW X e t
structure JA (X : Cx) (es : List Expr) (t : TA) : Prop where
  h : PA X es t
structure JS (X : Cx) (st : Stmt) (t : TS) : Prop where
  h : PS X st t
structure JB (X : Cx) (st : List Stmt) (t : TS) : Prop where
  h : PSs X st t
structure JG (X : Cx) (tg : Expr) (t : TG) : Prop where
  h : PG X tg t
structure JGs (X : Cx) (ts : List Expr) (t : TGs) : Prop where
  h : PGs X ts t
structure JI (X : Cx) (tg iter : Expr) (t : TI) : Prop where
  h : PI X tg iter t
structure JF (X : Cx) (ifs : List Expr) (t : TT) : Prop where
  h : PIf X ifs t
structure JO (X : Cx) (e : Option Expr) (t : TO) : Prop where
  h : PO X e t
section
variable {X : Cx} {a b c e o : Expr} {es rest : List Expr} {ta tb tc te to : TE} {tA tB : TT} {t : TA} {pos p apos cpos p2 : Pos}
theorem jv (i : Nat) {x : Str} (hN : X.N[i]? = some x := by rfl) (hv : Vis X.env.scope x := by first | exact Or.inl rfl | exact Or.inr (Or.inl rfl) | exact Or.inr (Or.inr rfl)) (hd : (x == ("__debug__" : Str)) = false := by decide)
    (hcd : (x == ("__classdict__" : Str)) = false := by decide) : JE X (.Name x pos) (tVar i) := ⟨pe_var hN hv hd hcd⟩
theorem j_int {i j} : JE X (.Constant (.int i) j pos) (tC (.int i)) := ⟨pe_int⟩
theorem j_bl {i j} : JE X (.Constant (.bool i) j pos) (tC (.bl i)) := ⟨pe_bl⟩
theorem j_non {j} : JE X (.Constant .none j pos) (tC .non) := ⟨pe_non⟩
theorem j_str {x j} : JE X (.Constant (.str x) j pos) (tC (.str x)) := ⟨pe_str⟩
theorem j_bltn {x : Str} {v : V} {u : Value} (hg : Gl X x) (hm : X.mg x = none) (hv : bootBuiltins x = some u) (r : RelV v u) (hn : x ≠ "__name__" := by decide) (hd : (x == ("__debug__" : Str)) = false := by decide) : JE X (.Name x pos) (tC v) := ⟨pe_bltn hg hm hv r hn hd⟩
theorem j_add (ha : JE X a ta) (hb : JE X b tb) : JE X (.BinOp a .Add b pos) (tOp (rI0 fun i j => .int (i + j)) ta tb) := ⟨pe_op op_add ha.h hb.h⟩
theorem j_sub (ha : JE X a ta) (hb : JE X b tb) : JE X (.BinOp a .Sub b pos) (tOp (rI0 fun i j => .int (i - j)) ta tb) := ⟨pe_op op_sub ha.h hb.h⟩
theorem j_mul (ha : JE X a ta) (hb : JE X b tb) : JE X (.BinOp a .Mult b pos) (tOp (rI CMul fun i j => .int (i * j)) ta tb) := ⟨pe_op op_mul ha.h hb.h⟩
theorem j_mod (ha : JE X a ta) (hb : JE X b tb) : JE X (.BinOp a .Mod b pos) (tOp (rI (fun _ j => 0 < j) fun i j => .int (i % j)) ta tb) := ⟨pe_op op_mod ha.h hb.h⟩
theorem j_fdiv (ha : JE X a ta) (hb : JE X b tb) : JE X (.BinOp a .FloorDiv b pos) (tOp (rI CDiv fun i j => .int (i / j)) ta tb) := ⟨pe_op op_fdiv ha.h hb.h⟩
theorem j_pow (ha : JE X a ta) (hb : JE X b tb) : JE X (.BinOp a .Pow b pos) (tOp (rI CPow fun i j => .int (i ^ j.toNat)) ta tb) := ⟨pe_op op_pow ha.h hb.h⟩
theorem j_cat (ha : JE X a ta) (hb : JE X b tb) : JE X (.BinOp a .Add b pos) (tOp (rCat) ta tb) := ⟨pe_op op_cat ha.h hb.h⟩
def rAddStr : R2 := fun x y H Q => ∃ i j, x = .str i ∧ y = .str j ∧ i.length + j.length ≤ sizeLine ∧ Q (.str (i ++ j)) H
theorem j_addstr (ha : JE X a ta) (hb : JE X b tb) : JE X (.BinOp a .Add b pos) (tOp rAddStr ta tb) := ⟨pe_op op_add_str ha.h hb.h⟩
theorem j_neg (ha : JE X a ta) : JE X (.UnaryOp .USub a pos) (tUn (rU fun i => .int (-i)) ta) := ⟨pe_un un_neg ha.h⟩
theorem j_not (ha : JE X a ta) : JE X (.UnaryOp .Not a pos) (tNotV ta) := ⟨pe_not ha.h⟩
theorem j_one {op} (h : JE X a ta) : JE X (.BoolOp op [a] pos) ta := ⟨pe_one h.h⟩
theorem j_and (ha : JE X a ta) (hb : JE X (.BoolOp .And (b :: rest) pos) tb) : JE X (.BoolOp .And (a :: b :: rest) pos) (tAndV ta tb) := ⟨pe_and ha.h hb.h⟩
theorem j_or (ha : JE X a ta) (hb : JE X (.BoolOp .Or (b :: rest) pos) tb) : JE X (.BoolOp .Or (a :: b :: rest) pos) (tOrV ta tb) := ⟨pe_or ha.h hb.h⟩
theorem jv_eq (ha : JE X a ta) (hb : JE X b tb) : JE X (.Compare a [.Eq] [b] pos) (tOp (rEq) ta tb) := ⟨pe_cmpR op_eq ha.h hb.h (nomark _)⟩
theorem jt_eq (ha : JE X a ta) (hb : JE X b tb) : JT X (.Compare a [.Eq] [b] pos) (tTest (tOp (rEq) ta tb)) := ⟨pt_cmpR op_eq ha.h hb.h (nomark _)⟩
theorem jv_ne (ha : JE X a ta) (hb : JE X b tb) : JE X (.Compare a [.NotEq] [b] pos) (tOp (rNe) ta tb) := ⟨pe_cmpR op_ne ha.h hb.h (nomark _)⟩
theorem jt_ne (ha : JE X a ta) (hb : JE X b tb) : JT X (.Compare a [.NotEq] [b] pos) (tTest (tOp (rNe) ta tb)) := ⟨pt_cmpR op_ne ha.h hb.h (nomark _)⟩
theorem jv_lt (ha : JE X a ta) (hb : JE X b tb) : JE X (.Compare a [.Lt] [b] pos) (tOp (rI0 fun i j => .bl (decide (i < j))) ta tb) := ⟨pe_cmpR op_lt ha.h hb.h (nomark _)⟩
theorem jt_gt (ha : JE X a ta) (hb : JE X b tb) : JT X (.Compare a [.Gt] [b] pos) (tTest (tOp (rI0 fun i j => .bl (decide (j < i))) ta tb)) := ⟨pt_cmpR op_gt ha.h hb.h (nomark _)⟩
theorem jt_ge (ha : JE X a ta) (hb : JE X b tb) : JT X (.Compare a [.GtE] [b] pos) (tTest (tOp (rI0 fun i j => .bl (decide (j ≤ i))) ta tb)) := ⟨pt_cmpR op_ge ha.h hb.h (nomark _)⟩
theorem jt_neK (K : PySem.W.Frag) (hu : X.A.units + 60 < cLine) (ha : JE X a ta) (hb : JE X b tb) (hK : X.K = K := by rfl) : JT X (.Compare a [.NotEq] [b] pos) (tTest (tOp (rEqD K true) ta tb)) := ⟨pt_cmpR (op_neK K hu hK) ha.h hb.h (nomark _)⟩
theorem jv_isN (ha : JE X a ta) (hb : JE X b tb) : JE X (.Compare a [.Is] [b] pos) (tOp (fun x y H Q => y = .non ∧ Q (.bl (decide (x = .non))) H) ta tb) := ⟨pe_cmpR op_isN ha.h hb.h (nomark _)⟩
theorem jt_isN (ha : JE X a ta) (hb : JE X b tb) : JT X (.Compare a [.Is] [b] pos) (tTest (tOp (fun x y H Q => y = .non ∧ Q (.bl (decide (x = .non))) H) ta tb)) := ⟨pt_cmpR op_isN ha.h hb.h (nomark _)⟩
theorem jt_inK (K : PySem.W.Frag) (ha : JE X a ta) (hb : JE X b tb) (hm : behindInMarks .In b = false) (hK : X.K = K := by rfl) : JT X (.Compare a [.In] [b] pos) (tTest (tOp (rIn K false) ta tb)) := ⟨pt_cmpR (op_inK K hK) ha.h hb.h hm⟩
theorem jt_w (h : JW X e tA) : JT X e tA := ⟨h.h.pt⟩
theorem jw_and1 (ha : JT X a tA) : JW X (.BoolOp .And [a] pos) tA := ⟨pw_and1 ha.h⟩
theorem jw_or1 (ha : JT X a tA) : JW X (.BoolOp .Or [a] pos) tA := ⟨pw_or1 ha.h⟩
theorem jw_and (ha : JT X a tA) (hb : JW X (.BoolOp .And (b :: rest) pos) tB) : JW X (.BoolOp .And (a :: b :: rest) pos) (tAnd tA tB) := ⟨pw_and ha.h hb.h⟩
theorem jw_or (ha : JT X a tA) (hb : JW X (.BoolOp .Or (b :: rest) pos) tB) : JW X (.BoolOp .Or (a :: b :: rest) pos) (tOr tA tB) := ⟨pw_or ha.h hb.h⟩
theorem jt_not (ha : JT X a tA) : JT X (.UnaryOp .Not a pos) (tNot tA) := ⟨pt_not ha.h⟩
theorem jt_tru (K : PySem.W.Frag) (ha : JE X a ta) (he : ∀ whole, isTrue a X.env whole = (do let v ← whole; standAt a.pos; holding [v] (truthy v)) := by intro _; rfl) (hK : X.K = K := by rfl) : JT X a (tTru K ta) := ⟨pt_truthK K ha.h he hK⟩
theorem ja_nil : JA X [] tNil := ⟨pa_nil⟩
theorem ja_cons (ha : JE X e te) (hr : JA X es t) (hs : starEach (e :: es) X.env = (false, eval e X.env) :: starEach es X.env := by rfl) : JA X (e :: es) (tCons te t) := ⟨pa_cons ha.h hr.h hs⟩
theorem j_tup {x1} (h : JA X es t) : JE X (.Tuple es x1 pos) (tTup t) := ⟨pe_tup h.h⟩
theorem j_lst (h : JA X es t) : JE X (.List es pos) (tLst t) := ⟨pe_lst h.h⟩
theorem j_ixL (K : PySem.W.Frag) (ha : JE X a ta) (hb : JE X b tb) (hs : PlainIx b := by intro _ _; rfl) (hK : X.K = K := by rfl) : JE X (.Subscript a b pos) (tOp (rIxL K) ta tb) := ⟨pe_ix (ix_listK K hK) ha.h hb.h hs⟩
theorem j_ixT (K : PySem.W.Frag) (ha : JE X a ta) (hb : JE X b tb) (hs : PlainIx b := by intro _ _; rfl) (hK : X.K = K := by rfl) : JE X (.Subscript a b pos) (tOp (rIxT K) ta tb) := ⟨pe_ix (ix_tupK K hK) ha.h hb.h hs⟩
theorem jo_none : JO X none tNoPart := ⟨po_none⟩
theorem jo_some (h : JE X e te) : JO X (some e) (tPart te) := ⟨po_some h.h⟩
theorem j_slL (K : PySem.W.Frag) {lo hi : Option Expr} {tl th : TO} (he : JE X e te) (hl : JO X lo tl) (hu : JO X hi th) (hK : X.K = K := by rfl) : JE X (.Subscript e (.Slice lo hi none p2) pos) (tSl (rSlL K) te tl th) := ⟨pe_slice (sl_listK K hK) he.h hl.h hu.h⟩
theorem j_call {k : Nat} {ps : List Str} {sp : Sp} {x : Str} (O : Ok X.prog X.w X.K X.mg X.base x k ps sp) (hr : Room k X.A) (hg : Gl X x) (ha : JA X (e :: es) t) (hdb : (x == ("__debug__" : Str)) = false := by decide)
    (he : starEach (e :: es) X.env = (false, eval e X.env) :: starEach es X.env := by rfl) (hpl : (backTo pos (starEach es X.env)).any (·.1) = false := by rfl) : JE X (.Call (.Name x p) (e :: es) [] pos) (tCall sp [] E0 t) := ⟨pe_callO O hr hg ha.h hdb he hpl⟩
theorem jc_len (K : PySem.W.Frag) (hg : Gl X "len") (hm : X.mg "len" = none) (ha : JA X (e :: es) t) (hK : X.K = K := by rfl) (he : starEach (e :: es) X.env = (false, eval e X.env) :: starEach es X.env := by rfl) (hpl : (backTo pos (starEach es X.env)).any (·.1) = false := by rfl) : JE X (.Call (.Name "len" p) (e :: es) [] pos) (tCB (rLen K) t) := ⟨pe_callB (call_lenK K hK) hg hm bb_len ha.h (by decide) (by decide) he hpl⟩
theorem jc_all (K : PySem.W.Frag) (hg : Gl X "all") (hm : X.mg "all" = none) (ha : JA X (e :: es) t) (hc : X.calm = true := by rfl) (hK : X.K = K := by rfl) (he : starEach (e :: es) X.env = (false, eval e X.env) :: starEach es X.env := by rfl) (hpl : (backTo pos (starEach es X.env)).any (·.1) = false := by rfl) : JE X (.Call (.Name "all" p) (e :: es) [] pos) (tCB (rAll K) t) := ⟨pe_callB (call_allK K hc hK) hg hm bb_all ha.h (by decide) (by decide) he hpl⟩
theorem jc_isinstance (K : PySem.W.Frag) (hg : Gl X "isinstance") (hm : X.mg "isinstance" = none) (ha : JA X (e :: es) t) (hK : X.K = K := by rfl) (he : starEach (e :: es) X.env = (false, eval e X.env) :: starEach es X.env := by rfl) (hpl : (backTo pos (starEach es X.env)).any (·.1) = false := by rfl) : JE X (.Call (.Name "isinstance" p) (e :: es) [] pos) (tCB (rIsi K) t) := ⟨pe_callB (call_isiK K hK) hg hm bb_isinstance ha.h (by decide) (by decide) he hpl⟩
theorem jc_tuple (K : PySem.W.Frag) (hg : Gl X "tuple") (hm : X.mg "tuple" = none) (ha : JA X (e :: es) t) (hK : X.K = K := by rfl) (he : starEach (e :: es) X.env = (false, eval e X.env) :: starEach es X.env := by rfl) (hpl : (backTo pos (starEach es X.env)).any (·.1) = false := by rfl) : JE X (.Call (.Name "tuple" p) (e :: es) [] pos) (tCB (rTuple K) t) := ⟨pe_callTy (call_tupleK K hK) hg hm bb_tuple ha.h (by decide) (by decide) he hpl⟩
theorem jc_int (hg : Gl X "int") (hm : X.mg "int" = none) (ha : JA X (e :: es) t) (he : starEach (e :: es) X.env = (false, eval e X.env) :: starEach es X.env := by rfl) (hpl : (backTo pos (starEach es X.env)).any (·.1) = false := by rfl) : JE X (.Call (.Name "int" p) (e :: es) [] pos) (tCB (rInt) t) := ⟨pe_callTy call_intK hg hm bb_int ha.h (by decide) (by decide) he hpl⟩
theorem jm_append (K : PySem.W.Frag) (ho : JE X o to) (ha : JA X (e :: es) t) (hK : X.K = K := by rfl) (hbase : attributeBase o "append" X.env (eval o X.env) = eval o X.env := by rfl)
    (hfew : ((backTo cpos (starEach (e :: es) X.env)).all (fun x => !x.1) && (backToKw cpos (keywordEach [] X.env)).all (fun x => x.1.isSome) && decide ((e :: es).length + ([] : List Keyword).length + (if ([] : List Keyword).isEmpty then 0 else 1) < 30)) = true := by rfl)
    (hline : (apos.endLine == cpos.line) = true := by rfl) (hs : starEach (e :: es) X.env = (false, eval e X.env) :: starEach es X.env := by rfl) (hplain : (backTo cpos (starEach es X.env)).any (·.1) = false := by rfl) :
    JE X (.Call (.Attribute o "append" apos) (e :: es) [] cpos) (tBM K "list" rAppend to t) := ⟨pe_bmK K PySem.F.plainAttrs_list PySem.F.slot_list_append PySem.F.type_list_append mt_append ho.h ha.h hK hbase hfew hline hs hplain⟩
theorem jm_popAt (K : PySem.W.Frag) (ho : JE X o to) (ha : JA X (e :: es) t) (hK : X.K = K := by rfl) (hbase : attributeBase o "pop" X.env (eval o X.env) = eval o X.env := by rfl)
    (hfew : ((backTo cpos (starEach (e :: es) X.env)).all (fun x => !x.1) && (backToKw cpos (keywordEach [] X.env)).all (fun x => x.1.isSome) && decide ((e :: es).length + ([] : List Keyword).length + (if ([] : List Keyword).isEmpty then 0 else 1) < 30)) = true := by rfl)
    (hline : (apos.endLine == cpos.line) = true := by rfl) (hs : starEach (e :: es) X.env = (false, eval e X.env) :: starEach es X.env := by rfl) (hplain : (backTo cpos (starEach es X.env)).any (·.1) = false := by rfl) :
    JE X (.Call (.Attribute o "pop" apos) (e :: es) [] cpos) (tBM K "list" rPopAt to t) := ⟨pe_bmK K PySem.F.plainAttrs_list PySem.F.slot_list_pop PySem.F.type_list_pop mt_popAt ho.h ha.h hK hbase hfew hline hs hplain⟩
theorem jm_extend (K : PySem.W.Frag) (ho : JE X o to) (ha : JA X (e :: es) t) (hK : X.K = K := by rfl) (hbase : attributeBase o "extend" X.env (eval o X.env) = eval o X.env := by rfl)
    (hfew : ((backTo cpos (starEach (e :: es) X.env)).all (fun x => !x.1) && (backToKw cpos (keywordEach [] X.env)).all (fun x => x.1.isSome) && decide ((e :: es).length + ([] : List Keyword).length + (if ([] : List Keyword).isEmpty then 0 else 1) < 30)) = true := by rfl)
    (hline : (apos.endLine == cpos.line) = true := by rfl) (hs : starEach (e :: es) X.env = (false, eval e X.env) :: starEach es X.env := by rfl) (hplain : (backTo cpos (starEach es X.env)).any (·.1) = false := by rfl) :
    JE X (.Call (.Attribute o "extend" apos) (e :: es) [] cpos) (tBM K "list" rExtend to t) := ⟨pe_bmK K PySem.F.plainAttrs_list PySem.F.slot_list_extend PySem.F.type_list_extend mt_extend ho.h ha.h hK hbase hfew hline hs hplain⟩
theorem jg_name {i : Nat} {x : Str} (hN : X.N.Nodup) (hi : X.N[i]? = some x) (hx : Loc X.env.scope x) (hf : X.fn x = true ∨ X.env.scope.names.lookup x = some .local := by first | exact .inl rfl | exact .inr rfl | assumption) : JG X (.Name x pos) (gName i) := ⟨pg_name hN hi hx hf⟩
theorem jgs_nil : JGs X [] gNil := ⟨pgs_nil⟩
theorem jgs_cons {g : TG} {u : TGs} (h1 : JG X e g) (h2 : JGs X es u) (hs : (assignEach (e :: es) X.env).map (·.2) = assign e X.env :: (assignEach es X.env).map (·.2) := by rfl) : JGs X (e :: es) (gCons g u) := ⟨pgs_cons h1.h h2.h hs⟩
theorem jg_tup (K : PySem.W.Frag) (n : Nat) {k : Nat} {u : TGs} (h : JGs X es u) (hc : X.calm = true := by rfl) (hK : X.K = K := by rfl) (hn : (assignEach es X.env).length = n := by rfl) (hst : (assignEach es X.env).findIdx? (·.1) = none := by rfl) : JG X (.Tuple es k pos) (gTup K n u) := ⟨pg_tupK K hc h.h hK hn hst⟩
theorem ji_list (K : PySem.W.Frag) {tg l : Expr} {tl : TE} (hl : JE X l tl) (hK : X.K = K := by rfl) : JI X tg l (iList K tl) := ⟨pi_listK K hl.h hK⟩
theorem ji_tup (K : PySem.W.Frag) {tg l : Expr} {tl : TE} (hl : JE X l tl) (hK : X.K = K := by rfl) : JI X tg l (iTup K tl) := ⟨pi_tupK K hl.h hK⟩
theorem ji_zip (K : PySem.W.Frag) {kt : Nat} {tp : Pos} (hg : Gl X "zip") (hm : X.mg "zip" = none) (ha : JA X [a, b] t) (hK : X.K = K := by rfl) (hs : starEach [a, b] X.env = [(false, eval a X.env), (false, eval b X.env)] := by rfl) (hs2 : starEach [b] X.env = [(false, eval b X.env)] := by rfl) :
    JI X (.Tuple es kt tp) (.Call (.Name "zip" p) [a, b] [] pos) (iZip K t) := ⟨pi_zipK K hg hm ha.h hK hs hs2⟩
theorem ji_range1 {tg : Expr} (hg : Gl X "range") (hm : X.mg "range" = none) (ha : JA X [a] t) (hs : starEach [a] X.env = [(false, eval a X.env)] := by rfl) : JI X tg (.Call (.Name "range" p) [a] [] pos) (iRng1 t) := ⟨pi_range1 hg hm ha.h hs⟩
theorem jf_nil : JF X [] tTrue := ⟨pif_nil⟩
theorem j_comp {tg iter elt : Expr} {ifs : List Expr} {scope : Scope} {N : List Str} {src : List (Option Nat)} {wi : TI} {g : TG} {tt : TT} (hi : JI X tg iter wi) (hcap : capOk scope X.env.scope = true) (hblk : blkOk N src X.N scope = true) (hsc : scOk scope = true)
    (hg : ∀ cells C s H ex, JG (X.blk N scope cells C s H ex) tg g) (ht : ∀ cells C s H ex, JF (X.blk N scope cells C s H ex) ifs tt) (he : ∀ cells C s H ex, JE (X.blk N scope cells C s H ex) elt te)
    (hc : X.calm = true := by rfl) (hs : ∀ x, foldedSetIterable iter X.env x = pure x := by intro _; rfl) : JE X (.ListComp elt [⟨tg, iter, ifs, 0⟩] scope pos) (tComp src wi g tt te) :=
  ⟨pe_comp hc hi.h hcap hblk hsc (fun _ _ _ _ _ => (hg _ _ _ _ _).h) (fun _ _ _ _ _ => (ht _ _ _ _ _).h) (fun _ _ _ _ _ => (he _ _ _ _ _).h) hs⟩
variable {st : Stmt} {sts : List Stmt} {u v : TS}
theorem jb_nil : JB X [] tNext := ⟨pss_nil⟩
theorem jb_cons (h1 : JS X st u) (h2 : JB X sts v) : JB X (st :: sts) (tSeq u v) := ⟨pss_cons h1.h h2.h⟩
theorem jb_one (h1 : JS X st u) : JB X [st] u := ⟨pss_one h1.h⟩
theorem js_ret (he : JE X e te) : JS X (.Return (some e) pos) (tRet te) := ⟨ps_ret he.h⟩
theorem js_expr (he : JE X e te) (hs : swapsWith e none pos.line X.env = pure false := by rfl) : JS X (.Expr e pos) (tDrop te) := ⟨ps_expr he.h hs⟩
theorem js_if {A B : List Stmt} (hc : JT X c tA) (ha : JB X A u) (hb : JB X B v) : JS X (.If c A B pos) (tIfS tA u v) := ⟨ps_if hc.h ha.h hb.h⟩
theorem js_for {tg iter : Expr} {B : List Stmt} {wi : TI} {g : TG} (hi : JI X tg iter wi) (hg : JG X tg g) (hb : JB X B v) (hp : PassesOwn (model X.prog X.w) X.A X.env X.xe := by exact PassesOwn.never) (hc : X.calm = true := by rfl)
    (hs : ∀ x, foldedSetIterable iter X.env x = pure x := by intro _; rfl) : JS X (.For tg iter B [] pos) (tFor wi g v) := ⟨ps_for hp hc hi.h hg.h hb.h hs⟩
theorem js_set {i : Nat} {x : Str} {pos' : Pos} (hN : X.N.Nodup) (hi : X.N[i]? = some x) (hx : Loc X.env.scope x) (he : JE X e te) (hs : swapsWith e (some (.Name x pos')) pos.line X.env = pure false := by rfl)
    (hf : X.fn x = true ∨ X.env.scope.names.lookup x = some .local := by first | exact .inl rfl | exact .inr rfl | assumption) : JS X (.Assign [.Name x pos'] e pos) (tAsg te (gName i)) := ⟨ps_set hN hi hx he.h hs hf⟩
theorem js_setC {i : Nat} {y : Str} {py spos : Pos} {tg iter elt : Expr} {ifs : List Expr} {scope : Scope} {N : List Str} {src : List (Option Nat)} {wi : TI} {g : TG} {tt : TT}
    (hN : X.N.Nodup) (hy : X.N[i]? = some y) (hx : Loc X.env.scope y) (hi : JI X tg iter wi) (hcap : capOk scope X.env.scope = true) (hblk : blkOk N src X.N scope = true) (hsc : scOk scope = true)
    (hg : ∀ cells C s H ex, JG (X.blk N scope cells C s H ex) tg g) (ht : ∀ cells C s H ex, JF (X.blk N scope cells C s H ex) ifs tt) (hel : ∀ cells C s H ex, JE (X.blk N scope cells C s H ex) elt te)
    (hc : X.calm = true := by rfl) (hsw : swapsWith (.ListComp elt [⟨tg, iter, ifs, 0⟩] scope pos) (some (.Name y py)) spos.line X.env = pure true := by rfl) (hs : ∀ x, foldedSetIterable iter X.env x = pure x := by intro _; rfl)
    (hf : X.fn y = true ∨ X.env.scope.names.lookup y = some .local := by first | exact .inl rfl | exact .inr rfl | assumption) :
    JS X (.Assign [.Name y py] (.ListComp elt [⟨tg, iter, ifs, 0⟩] scope pos) spos) (tAsg (tComp src wi g tt te) (gName i)) :=
  ⟨ps_setC hN hy hx hc hi.h hcap hblk hsc (fun _ _ _ _ _ => (hg _ _ _ _ _).h) (fun _ _ _ _ _ => (ht _ _ _ _ _).h) (fun _ _ _ _ _ => (hel _ _ _ _ _).h) hsw hs hf⟩
end
section
variable {P : Program} {w : World} {K : PySem.W.Frag} {mg : Str → Option Value} {base : Heap}
theorem FunAt.okJ {x : Str} {st : Stmt} {N ps : List Str} {k : Nat} {sp : Sp} (F : FunAt K mg x st ps) (S : FnScope N ps (defScope st)) (len : ∀ vs H Q E, sp vs H Q E → vs.length = ps.length)
    (hbody : ∀ (cdv : Value) (f : Addr) (A : Around) (outer : List Env) (s : Shared) (H : Hp) (vs : List V) (Q : VK) (E : XK), Room k (A.deeper (envOfC x (defScope st) s.heap.objs.size f cdv)) → sp vs H Q E →
      ∃ t, JB (cxOf CX0 P w K mg base N x (defScope st) f cdv A outer s H E).nox (defBody st) t ∧ t { nx := fun _ H' => Q .non H', rt := Q } (start N vs) H) : Ok P w K mg base x (k + 1) ps sp :=
  F.ok S len fun cdv f A outer s H vs Q E hr h => let ⟨t, d, r⟩ := hbody cdv f A outer s H vs Q E hr h; ⟨t, d.h, r⟩
theorem Fun.okJ {x qual : Str} {st : Stmt} {f : Addr} {fd : FuncData} {N ps : List Str} {k : Nat} {sp : Sp} (F : Fun K x qual st f fd) (S : FnScope N ps (defScope st)) (len : ∀ vs H Q E, sp vs H Q E → vs.length = ps.length)
    (hbody : ∀ (cdv : Value) (A : Around) (outer : List Env) (s : Shared) (H : Hp) (vs : List V) (Q : VK) (E : XK), Room k (A.deeper (envOfC qual (defScope st) s.heap.objs.size f cdv)) → sp vs H Q E →
      ∃ t, JB (cxOf CX0 P w K mg base N qual (defScope st) f cdv A outer s H E).nox (defBody st) t ∧ t { nx := fun _ H' => Q .non H', rt := Q } (start N vs) H) : FnOk P w K mg base CX0 (k + 1) f fd ps sp :=
  F.ok S len fun cdv A outer s H vs Q E hr h => let ⟨t, d, r⟩ := hbody cdv A outer s H vs Q E hr h; ⟨t, d.h, r⟩
end
def spLaw (K : PySem.W.Frag) : Sp := fun vs H Q _ => ∃ (a : Addr) (ns : List Int), vs = [.ref a] ∧ SqL K H a (ns.map V.int) ∧ ns.length ≤ 63 ∧ ∀ H', Q (.bl true) H'
theorem law_walk {l : PySem.W.OpenLaw} {q : Program} {loose : List Str} {XP : (Str → Option Value) → Heap → Prop} {YP : World → Heap → Prop} {d : DefRec} {K : Params → PySem.W.Frag} (k : Nat) (hn : l.most = some 63) (hdf : d.params.defaults = []) (hr : Room k callerA)
    (hY : ∀ (w : World) (h : Heap), YP w h → (K w.params).In h)
    (F : ∀ (w : World) (mg : Str → Option Value) (fa : Addr) (h : Heap), (K w.params).In h → h.Ns mainGlobals mg → mg d.name = some (.ref fa) →
      ∃ fd : FuncData, (∀ (s : Shared) (u : Value), BindsTo s fd ⟨[u], []⟩ [("_law_script", u)]) ∧ ∀ base : Heap, (K w.params).In base → base.Ns mainGlobals mg → FnOk l.prog w (K w.params) mg base CX0 k fa fd ["_law_script"] (spLaw (K w.params))) :
    PySem.W.WalkO q loose XP YP l.row.toRowW d [] (fun f vs => PySem.call f vs) :=
  L2.walk_of (n := 63) (k := k) (x := "_law_script") (CX := fun _ => CX0) (sp := fun w => spLaw (K w.params)) hn (by decide) hdf hr hY F (fun _ _ a ns hl _ hS => ⟨a, ns, rfl, hS, hl, fun _ => rfl⟩) fun _ _ _ _ _ z => z
end L2
set_option Elab.async false
set_option linter.all false
set_option maxRecDepth 100000
namespace L2
open PySem PySem.Spec PyProof.Rows
def Its (H : Hp) (vs : List V) (rss : List (List Int)) : Prop := vs.length = rss.length ∧ ∀ (i : Nat) (v : V), vs[i]? = some v → ∃ r, rss[i]? = some r ∧ IT H v r
theorem Its.same {H H' : Hp} {vs : List V} {rss : List (List Int)} (h : Its H vs rss) (s : Same H H') : Its H' vs rss := ⟨h.1, fun i v e => let ⟨r, e1, e2⟩ := h.2 i v e; ⟨r, e1, e2.same s⟩⟩
theorem Its.nil {H : Hp} : Its H [] [] := ⟨rfl, fun i v e => by simp at e⟩
theorem Its.snoc {H : Hp} {vs : List V} {rss : List (List Int)} {v : V} {r : List Int} (h : Its H vs rss) (hv : IT H v r) : Its H (vs ++ [v]) (rss ++ [r]) := by
  refine ⟨by simp [h.1], fun i u e => ?_⟩
  by_cases hi : i < vs.length
  · rw [List.getElem?_append_left hi] at e
    obtain ⟨q, e1, e2⟩ := h.2 i u e
    exact ⟨q, by rw [List.getElem?_append_left (by rw [← h.1]; exact hi)]; exact e1, e2⟩
  · rw [List.getElem?_append_right (by omega)] at e
    have hj : i - vs.length = 0 := by
      have := (List.getElem?_eq_some_iff.mp e).1
      simp at this
      omega
    rw [hj] at e
    simp at e
    subst e
    refine ⟨r, ?_, hv⟩
    rw [List.getElem?_append_right (by rw [← h.1]; omega), ← h.1, hj]
    rfl
theorem js_never {X : Cx} {st : Stmt} : JS X st (fun _ _ _ => False) := ⟨fun _ _ _ _ _ _ h => h.elim⟩
end L2
set_option Elab.async false
set_option linter.all false
set_option maxRecDepth 100000
namespace L2
open PySem PySem.Spec PyProof.Rows PySem.W
def Cov (l : List Env) (H : Hp) (h0 h B : Heap) : Prop := ∀ b o, h.get? b = some o → b ∉ frs l → (H b ≠ none ∨ ∃ o', h0.get? b = some o') → B.get? b = some o
def XP (X : Cx) (pins : List (Addr × Obj)) (R : St → Addr → Hp → Prop) (e : Value) (s' : Shared) : Prop :=
  ∃ (σ1 : St) (H1 : Hp) (s1 : Shared) (p C : Addr) (H' : Hp) (B : Heap) (a0 : Value), e = .ref p ∧ Inv X pins σ1 H1 s1 ∧ s'.os = s1.os ∧ AllBare s'.gens ∧ Un (frs X.stack) [] H1 H' s1.heap s'.heap ∧ HOk X.prog X.w H' s'.heap ∧
    H' p = none ∧ Heap.FlyingW B X.stack p (.ref C) a0 s'.heap ∧ Cov X.stack H' s1.heap s'.heap B ∧ R σ1 C H'
section
variable {M : Model} {A : Around} {E : Value → Shared → Prop}
end
section
variable {X : Cx} {pins : List (Addr × Obj)} {σ : St} {H1 H' : Hp} {s1 s' : Shared} {p C : Addr} {B : Heap} {a0 : Value} {h2 : Heap}
end
section
variable {X : Cx} {pins : List (Addr × Obj)} {σ : St} {H : Hp} {s : Shared}
end
section
variable {X : Cx} {k : Nat} {ps : List Str} {sp : Sp} {x y : Str} {p pos cpos pos' : Pos} {e : Expr} {es : List Expr} {t : TA} {i : Nat}
end
end L2
namespace L2
open PySem PySem.Spec PyProof.Rows PySem.W Builtin Builtin.ObjectAttr Builtin.Getset_descriptor
section
variable {K : PySem.W.Frag} {prog : Program} {w : World} {A : Around} {E : Value → Shared → Prop} {h : Heap} {g : Array GenState} {d : Drawn} {t : Nat} {os : OsState} {a : Addr} {o : Obj}
  {nm q : Str} {C N : Addr} {bs bm : List Value} {hdct : Bool} {sn : List Str} {sub : List Value} {ab : Bool} {col : Option Bool} {dd : Option Addr} {k0 k1 k2 k3 k5 : Option Value} {newId : String}
end
section
variable {X : Cx} {es : List Expr} {e : Expr} {t : TA} {pos p : Pos}
theorem j_glob {x : Str} {v : V} {u : Value} (hg : Gl X x) (hm : X.mg x = some u) (r : RelV v u) (hd : (x == ("__debug__" : Str)) = false := by decide) : JE X (.Name x pos) (tC v) := ⟨pe_glob hg hm r hd⟩
end
end L2
set_option Elab.async false
set_option linter.all false
set_option maxRecDepth 100000
namespace L2
open PySem PySem.Spec PyProof.Rows
end L2
set_option Elab.async false
set_option linter.all false
set_option maxRecDepth 100000
namespace L2
open PySem PySem.Spec PyProof.Rows
theorem Its.put {H : Hp} {vs : List V} {rss : List (List Int)} {c : Addr} {xs : List V} {o : HO} (h : Its H vs rss) (hc : H c = some (.lst xs)) : Its (upd H c o) vs rss := ⟨h.1, fun i v e => let ⟨r, e1, a, e2, q⟩ := h.2 i v e; ⟨r, e1, a, e2, by rw [upd_ne (ne_of q hc (by intro z; cases z))]; exact q⟩⟩
end L2
set_option Elab.async false
set_option linter.all false
set_option maxRecDepth 100000
namespace L2
open PySem PySem.Spec PyProof.Rows
open _root_.HT
section
variable {prog : Program} {w : World} {A : Around} {E : Value → Shared → Prop} {s : Shared}
theorem fm_congr {α β : Type} {f g : α → Option β} : ∀ (l : List α), (∀ m ∈ l, f m = g m) → l.filterMap f = l.filterMap g
  | [], _ => rfl
  | a :: l, h => by
    rw [List.filterMap_cons, List.filterMap_cons, h a (List.mem_cons_self ..), fm_congr l fun m hm => h m (List.mem_cons_of_mem _ hm)]
theorem pick_rev (xs : Array Value) : ((List.range xs.size).filterMap fun (m : Nat) => xs[(((xs.size : Int) - 1) + (m : Int) * (-1)).toNat]?).toArray = xs.toList.reverse.toArray := by
  congr 1
  have e : ∀ m ∈ List.range xs.size, xs[(((xs.size : Int) - 1) + (m : Int) * (-1)).toNat]? = some (xs.toList.reverse.getD m .none) := fun m hm => by
    have hm' : m < xs.size := List.mem_range.mp hm
    have e1 : (((xs.size : Int) - 1) + (m : Int) * (-1)).toNat = xs.size - 1 - m := by omega
    rw [e1, List.getD_eq_getElem?_getD, List.getElem?_reverse (by simpa using hm'), Array.length_toList, Array.getElem?_toList, Array.getElem?_eq_getElem (by omega)]
    rfl
  rw [fm_congr _ e]
  rw [show (List.range xs.size).filterMap (fun m => some (xs.toList.reverse.getD m .none)) = (List.range xs.size).map (fun m => xs.toList.reverse.getD m .none) from congrFun (List.filterMap_eq_map (f := fun m => xs.toList.reverse.getD m .none)) _]
  refine List.ext_getElem (by simp) fun i h1 h2 => ?_
  simp only [List.getElem_map, List.getElem_range]
  rw [List.getD_eq_getElem?_getD, List.getElem?_eq_getElem h2]
  rfl
end
section
variable {X : Cx} {e : Expr} {te : TE} {lo hi : Option Expr} {tl th : TO} {pos p2 : Pos}
end
end L2
set_option Elab.async false
set_option linter.all false
set_option maxRecDepth 100000
namespace L2
open PySem PySem.Spec PyProof.Rows
section
variable {X : Cx}
end
end L2
set_option Elab.async false
set_option linter.all false
set_option maxRecDepth 100000
namespace L2
open PySem PySem.Spec PyProof.Rows
section
variable {X : Cx}
end
end L2
set_option Elab.async false
set_option linter.all false
set_option maxRecDepth 100000
namespace L2
open PySem PySem.Spec PyProof.Rows
section
variable {prog : Program} {w : World} {A : Around} {E : Value → Shared → Prop} {s : Shared} {k : Bool}
theorem wp_ite {α : Type} {M : Model} {A : Around} {c : Bool} {t u : Sem α} {Q : α → Shared → Prop} {E : Value → Shared → Prop} {s : Shared} (h1 : wpAny M A t Q E s) (h2 : wpAny M A u Q E s) : wpAny M A (if c = true then t else u) Q E s := by
  cases c
  · exact h2
  · exact h1
end
section
variable {X : Cx}
end
theorem bb_enumerate : bootBuiltins "enumerate" = some (.type "enumerate") := by kernel_rfl
section
variable {X : Cx}
end
end L2
set_option Elab.async false
set_option linter.all false
set_option maxRecDepth 100000
namespace L2
open PySem PySem.Spec PyProof.Rows
section
variable {M : Model} {A : Around} {E : Value → Shared → Prop}
end
section
variable {X : Cx} {k : Nat} {ps : List Str} {sp : Sp} {x : Str} {p pos cpos : Pos} {e : Expr} {es : List Expr} {t : TA}
end
end L2
set_option Elab.async false
set_option linter.all false
set_option maxRecDepth 100000
namespace L2
open PySem PySem.Spec PyProof.Rows
end L2
namespace L2
open PySem PySem.Spec PyProof.Rows
section
variable (P : Program) (w : World)
end
section
variable {P : Program} {w : World} {H H' : Hp} {h h' : Heap} {a : Addr} {o : HO}
end
section
variable {P : Program} {w : World} {H : Hp} {h h' : Heap} {x e : Addr} {o' : HO}
end
section
variable {fs fs' ex ex' : List Addr} {H H1 H2 : Hp} {h h1 h2 h' : Heap} {a x e : Addr} {o : HO}
end
end L2
namespace L2
open PySem PySem.Spec PyProof.Rows
section
variable {X : Cx} {pins : List (Addr × Obj)} {σ : List (Option V)} {H H' : Hp} {s : Shared} {h' : Heap}
end
end L2
namespace L2
open PySem PySem.Spec PyProof.Rows
section
variable {X : Cx}
variable {a b : Expr} {ta tb : TE} {pos : Pos}
variable {tA tB' : TT} {rest : List Expr}
end
end L2
namespace L2
open PySem PySem.Spec PyProof.Rows
section
variable {X : Cx} {pins : List (Addr × Obj)} {σ : St} {H : Hp} {s : Shared} {a : Addr} {xs ys : List V}
end
section
variable {X : Cx} {pins : List (Addr × Obj)} {σ : St} {H : Hp} {s : Shared} {E : Value → Shared → Prop}
end
section
variable {X : Cx} {st : Stmt} {rest : List Stmt} {t u : TS} {e : Expr} {te : TE} {pos : Pos}
end
section
variable {X : Cx} {pos : Pos}
end
section
variable {X : Cx} {pos : Pos}
end
end L2
namespace L2
open PySem PySem.Spec PyProof.Rows
section
variable {X : Cx} {tg : Expr}
end
end L2
namespace L2
open PySem PySem.Spec PyProof.Rows
section
variable {X : Cx} {a b c : Expr} {ta tb tc : TE} {pos : Pos}
end
section
variable {X : Cx} {a b c : Expr} {ta tb tc : TE} {pos : Pos}
end
end L2
namespace L2
open PySem PySem.Spec PyProof.Rows
section
variable {prog : Program} {w : World} {A : Around} {E : Value → Shared → Prop} {s : Shared} {K : PySem.W.Frag} {x dx C f : Addr} {mA : Str → Option Value} {name : Str} {v : Value}
end
section
variable {P : Program} {w : World} {H H' : Hp} {h h' : Heap} {a C dx : Addr} {fs fs' : List (Str × V)}
end
section
variable {X : Cx} {pins : List (Addr × Obj)} {σ : St} {H : Hp} {s : Shared} {a C dx : Addr} {fs : List (Str × V)} {f : Str} {v : V} {A : Around} {E : Value → Shared → Prop}
end
section
variable {X : Cx} {o e value : Expr} {f : Str} {pos pos' tpos : Pos} {ta tv : TE}
end
section
variable {X : Cx} {pins : List (Addr × Obj)} {σ : St} {H : Hp} {s : Shared} {A : Around} {E : Value → Shared → Prop} {Q : Value → Shared → Prop} {c : Value} {b : Bool}
end
end L2
namespace L2
open PySem PySem.Spec PyProof.Rows
section
variable {X : Cx} {e : Expr} {es : List Expr} {te : TE} {t : TA} {pos : Pos}
end
section
variable {X : Cx} {pins : List (Addr × Obj)} {σ : St} {H : Hp} {s s' : Shared}
end
section
variable {X : Cx} {CX : CXT} {k : Nat} {f C : Addr} {fd : FuncData} {ps : List Str} {sp : Sp} {dvs : List V} {ds : List Value} {E : XK} {x m : Str} {p pos apos : Pos} {e o : Expr} {es : List Expr} {ta : TE} {t : TA}
end
section
variable {X : Cx} {CX : CXT} {k : Nat} {f C : Addr} {fd : FuncData} {ps ks : List Str} {sp : Sp} {E : XK} {x m : Str} {p pos apos kpos : Pos} {e o : Expr} {es : List Expr} {kws : List Keyword} {te ta : TE} {t tk : TA} {nm : Option Str}
variable {g : List Value → List Value → List Value} {gV : List V → List V → List V}
end
end L2
namespace L2
open PySem PySem.Spec PyProof.Rows
section
variable {X : Cx} {x : Str} {p pos : Pos} {e : Expr} {es : List Expr} {t : TA} {id T : String} {r : List V → Hp → VK → Prop}
end
end L2
namespace L2
open PySem PySem.Spec PyProof.Rows
section
variable {κ : Type} [DecidableEq κ]
def valV (kvs : List (κ × V)) (k : κ) : Option V := (kvs.find? fun kv => decide (kv.1 = k)).map (·.2)
def putK (kvs : List (κ × V)) (k : κ) (v : V) : List (κ × V) :=
  if (kvs.any fun kv => decide (kv.1 = k)) = true then kvs.map (fun kv => if kv.1 = k then (kv.1, v) else kv) else kvs ++ [(k, v)]
theorem valV_pos {p : κ × V} {r : List (κ × V)} {k : κ} (e : p.1 = k) : valV (p :: r) k = some p.2 := by simp [valV, List.find?_cons, e]
theorem valV_neg {p : κ × V} {r : List (κ × V)} {k : κ} (e : ¬ p.1 = k) : valV (p :: r) k = valV r k := by simp [valV, List.find?_cons, e]
theorem valV_any (k : κ) : ∀ kvs : List (κ × V), (kvs.any fun kv => decide (kv.1 = k)) = (valV kvs k).isSome
  | [] => rfl
  | p :: r => by
    rw [List.any_cons]
    by_cases e : p.1 = k
    · simp only [valV_pos e, decide_eq_true e, Bool.true_or, Option.isSome_some]
    · rw [valV_neg e, decide_eq_false e, Bool.false_or]; exact valV_any k r
theorem length_putK (kvs : List (κ × V)) (k : κ) (v : V) : (putK kvs k v).length ≤ kvs.length + 1 := by
  unfold putK
  split
  · rw [List.length_map]; omega
  · rw [List.length_append, List.length_cons, List.length_nil]; omega
theorem RelO.isSome_eq {o : Option V} {u : Option Value} (r : RelO o u) : o.isSome = u.isSome := by
  cases o with
  | none => cases u with
    | none => rfl
    | some _ => exact (show False from r).elim
  | some _ => cases u with
    | none => exact (show False from r).elim
    | some _ => rfl
theorem KV.val {kvs : List (κ × V)} {vs : List (κ × Value)} (r : KV kvs vs) (k : κ) : RelO (valV kvs k) (valueAt vs k) := by
  unfold KV at r
  induction r with
  | nil => exact True.intro
  | @cons p q ps qs h t ih =>
    obtain ⟨h1, h2⟩ := h
    by_cases e : p.1 = k
    · have e' : q.1 = k := h1.symm.trans e
      have b : valueAt (q :: qs) k = some q.2 := by simp [valueAt, List.find?_cons, e']
      rw [valV_pos e, b]; exact h2
    · have e' : ¬ q.1 = k := fun z => e (h1.trans z)
      have b : valueAt (q :: qs) k = valueAt qs k := by simp [valueAt, List.find?_cons, e']
      rw [valV_neg e, b]; exact ih
theorem KV.any {kvs : List (κ × V)} {vs : List (κ × Value)} (r : KV kvs vs) (k : κ) : (kvs.any fun kv => decide (kv.1 = k)) = vs.any fun kv => decide (kv.1 = k) := by
  unfold KV at r
  induction r with
  | nil => rfl
  | cons h t ih => rw [List.any_cons, List.any_cons, ih, h.1]
theorem KV.repl {kvs : List (κ × V)} {vs : List (κ × Value)} (r : KV kvs vs) (k : κ) {y : V} {u : Value} (ry : RelV y u) :
    KV (kvs.map fun kv => if kv.1 = k then (kv.1, y) else kv) (vs.map fun kv => if kv.1 = k then (kv.1, u) else kv) := by
  unfold KV at r ⊢
  induction r with
  | nil => exact .nil
  | @cons p q ps qs h t ih =>
    rw [List.map_cons, List.map_cons]
    refine .cons ?_ ih
    obtain ⟨h1, h2⟩ := h
    by_cases e : p.1 = k
    · rw [if_pos e, if_pos (h1.symm.trans e)]; exact ⟨h1, ry⟩
    · rw [if_neg e, if_neg (fun z => e (h1.trans z))]; exact ⟨h1, h2⟩
theorem KV.put {kvs : List (κ × V)} {vs : List (κ × Value)} (r : KV kvs vs) (k : κ) {y : V} {u : Value} (ry : RelV y u) : KV (putK kvs k y) (stored vs k u) := by
  unfold putK stored
  rw [r.any k]
  by_cases e : (vs.any fun kv => decide (kv.1 = k)) = true
  · rw [if_pos e, if_pos e]; exact r.repl k ry
  · rw [if_neg e, if_neg e]; exact Paired.snoc r ⟨rfl, ry⟩
theorem KV.length {kvs : List (κ × V)} {vs : List (κ × Value)} (r : KV kvs vs) : kvs.length = vs.length := Paired.length r
end
theorem kV_is {P : Program} {w : World} {k : Key} {u : Value} (r : RelV (kV k) u) : (mixKind P w).is k u = true := by
  cases k with
  | inl i => obtain ⟨t, e⟩ := (show ∃ t, u = Value.int i t from r); subst e; exact mixKind_int P w i t
  | inr x => obtain ⟨t, e⟩ := (show ∃ t, u = Value.str x t from r); subst e; exact mixKind_str P w x t
theorem items_are {P : Program} {w : World} : ∀ {ks : List Key} {us : List Value}, Vals (ks.map kV) us → ItemsAre (mixKind P w) ks us
  | [], _, r => by rw [List.map_nil] at r; cases r; exact .nil
  | k :: ks, _, r => by
    rw [List.map_cons] at r
    cases r with
    | cons h t => exact .cons (kV_is h) (items_are t)
abbrev KT (H : Hp) : List (List Key × V) → List (List Key × Addr × Value) → Prop := Paired fun p q => p.1 = q.1 ∧ H q.2.1 = some (.tup (p.1.map kV)) ∧ RelV p.2 q.2.2
theorem KT.val {H : Hp} {kvs : List (List Key × V)} {xs : List (List Key × Addr × Value)} (r : KT H kvs xs) (k : List Key) : RelO (valV kvs k) ((atKey xs k).map (·.2)) := by
  induction r with
  | nil => exact True.intro
  | @cons p q ps qs h t ih =>
    obtain ⟨h1, _, h2⟩ := h
    by_cases e : p.1 = k
    · have e' : q.1 = k := h1.symm.trans e
      have b : atKey (q :: qs) k = some q.2 := by simp [atKey, List.find?_cons, e']
      rw [valV_pos e, b]; exact h2
    · have e' : ¬ q.1 = k := fun z => e (h1.trans z)
      have b : atKey (q :: qs) k = atKey qs k := by simp [atKey, List.find?_cons, e']
      rw [valV_neg e, b]; exact ih
theorem KT.repl {H : Hp} {kvs : List (List Key × V)} {xs : List (List Key × Addr × Value)} (r : KT H kvs xs) (k : List Key) {y : V} {u : Value} (ry : RelV y u) :
    KT H (kvs.map fun kv => if kv.1 = k then (kv.1, y) else kv) (xs.map (putAt k u)) := by
  induction r with
  | nil => exact .nil
  | @cons p q ps qs h t ih =>
    rw [List.map_cons, List.map_cons]
    refine .cons ?_ ih
    obtain ⟨h1, h2, h3⟩ := h
    unfold putAt
    by_cases e : p.1 = k
    · rw [if_pos e, if_pos (h1.symm.trans e)]; exact ⟨h1, h2, ry⟩
    · rw [if_neg e, if_neg (fun z => e (h1.trans z))]; exact ⟨h1, h2, h3⟩
theorem KT.put {H : Hp} {kvs : List (List Key × V)} {xs : List (List Key × Addr × Value)} (r : KT H kvs xs) (k : List Key) {b : Addr} {y : V} {u : Value} (hb : H b = some (.tup (k.map kV))) (ry : RelV y u) :
    KT H (putK kvs k y) (storedH xs k b u) := by
  have e : (kvs.any fun kv => decide (kv.1 = k)) = (atKey xs k).isSome := by
    rw [valV_any, (r.val k).isSome_eq, Option.isSome_map]
  unfold putK storedH
  rw [e]
  by_cases q : (atKey xs k).isSome = true
  · rw [if_pos q, if_pos q]; exact r.repl k ry
  · rw [if_neg q, if_neg q]; exact Paired.snoc r ⟨rfl, hb, ry⟩
theorem KT.keeps {H H' : Hp} {kvs : List (List Key × V)} {xs : List (List Key × Addr × Value)} (r : KT H kvs xs) (ht : ∀ b ys, H b = some (.tup ys) → H' b = some (.tup ys)) : KT H' kvs xs :=
  Paired.mapP r fun _ _ z => ⟨z.1, ht _ _ z.2.1, z.2.2⟩
section
variable {P : Program} {w : World} {H : Hp} {h : Heap} {a : Addr}
theorem rd_of {u : HO} (ok : HOk P w H h) (e : Rd H a u) : ObjOk P w H h a u := e.ok ok
theorem dk_rd {kvs : List (Key × V)} (ok : HOk P w H h) (e : Rd H a (.dK kvs)) : kvs.length ≤ sizeLine ∧ (a == sysModules) = false ∧ ∃ vs, KV kvs vs ∧ h.DictOf (mixKind P w) a vs :=
  show ObjOk P w H h a (.dK kvs) from rd_of ok e
theorem dk_of {kvs : List (Key × V)} (ok : HOk P w H h) (e : H a = some (.dK kvs)) : kvs.length ≤ sizeLine ∧ (a == sysModules) = false ∧ ∃ vs, KV kvs vs ∧ h.DictOf (mixKind P w) a vs := dk_rd ok (.inl e)
theorem key_of {ks : List Key} (ok : HOk P w H h) (e : H a = some (.tup (ks.map kV))) : (tupleKind (mixKind P w)).is h ks a := by
  obtain ⟨_, its, r, o, h1, h2, n, h3⟩ := (show ObjOk P w H h a (.tup (ks.map kV)) from ok a _ e)
  exact ⟨o, its.toArray, n, h1, h2, h3, by simpa using items_are r⟩
theorem dt_rd {kvs : List (List Key × V)} (ok : HOk P w H h) (e : Rd H a (.dT kvs)) : kvs.length ≤ sizeLine ∧ (a == sysModules) = false ∧
    ∃ xs, KT H kvs xs ∧ h.DictOfH (tupleKind (mixKind P w)) a xs := by
  obtain ⟨z, y, xs, r, o, es, ep, h1, h2, h3, h4, h5⟩ := (show ObjOk P w H h a (.dT kvs) from rd_of ok e)
  refine ⟨z, y, xs, r, o, es, ep, h1, h2, h3, h4, fun x hx => ?_, h5⟩
  have all : ∀ {l : List (List Key × V)} {m : List (List Key × Addr × Value)}, KT H l m → ∀ x ∈ m, (tupleKind (mixKind P w)).is h x.1 x.2.1 := by
    intro l m q
    induction q with
    | nil => intro x hx; exact nomatch hx
    | @cons p q ps qs hq t ih =>
      intro x hx
      rcases List.mem_cons.mp hx with e | hx
      · subst e
        exact key_of ok (by rw [← hq.1]; exact hq.2.1)
      · exact ih x hx
  exact all r x hx
theorem dt_of {kvs : List (List Key × V)} (ok : HOk P w H h) (e : H a = some (.dT kvs)) : kvs.length ≤ sizeLine ∧ (a == sysModules) = false ∧
    ∃ xs, KT H kvs xs ∧ h.DictOfH (tupleKind (mixKind P w)) a xs := dt_rd ok (.inl e)
end
def DGet (H : Hp) (a : Addr) (y : V) (r : Option V) : Prop :=
  (∃ kvs k, Rd H a (.dK kvs) ∧ y = kV k ∧ r = valV kvs k) ∨ ∃ kvs k b, Rd H a (.dT kvs) ∧ y = .ref b ∧ H b = some (.tup (k.map kV)) ∧ r = valV kvs k
def DPut (H : Hp) (a : Addr) (y v : V) (H' : Hp) : Prop :=
  (∃ kvs k, H a = some (.dK kvs) ∧ y = kV k ∧ kvs.length < sizeLine ∧ H' = upd H a (.dK (putK kvs k v))) ∨
  ∃ kvs k b, H a = some (.dT kvs) ∧ y = .ref b ∧ H b = some (.tup (k.map kV)) ∧ kvs.length < sizeLine ∧ H' = upd H a (.dT (putK kvs k v))
theorem DGet.k {H : Hp} {a : Addr} {kvs : List (Key × V)} {k : Key} (e : H a = some (.dK kvs)) : DGet H a (kV k) (valV kvs k) := .inl ⟨kvs, k, .inl e, rfl, rfl⟩
theorem DPut.k {H : Hp} {a : Addr} {kvs : List (Key × V)} {k : Key} {v : V} (e : H a = some (.dK kvs)) (hl : kvs.length < sizeLine) : DPut H a (kV k) v (upd H a (.dK (putK kvs k v))) := .inl ⟨kvs, k, e, rfl, hl, rfl⟩
section
variable {X : Cx} {pins : List (Addr × Obj)} {σ : St} {H : Hp} {s : Shared} {a : Addr} {y v : V} {u r : Value} {o : Option V} {A : Around} {E : Value → Shared → Prop}
theorem Inv.big (I : Inv X pins σ H s) : sysModules < s.heap.objs.size := by
  have h : mainGlobals < s.heap.objs.size := (I.mod.glob.keeps I.bk).lt
  exact Nat.lt_trans (by decide) h
theorem d_getItem {Q : Value → Shared → Prop} (hu : A.units + 1 < cLine) (I : Inv X pins σ H s) (g : DGet H a y (some v)) (ry : RelV y u) (h : ∀ w' s', Inv X pins σ H s' → RelV v w' → Q w' s') :
    wpAny (model X.prog X.w) A (getItem (.ref a) u) Q E s := by
  rcases g with ⟨kvs, k, e, ey, l⟩ | ⟨kvs, k, b, e, ey, eb, l⟩
  · subst ey
    obtain ⟨z, hd, vs, rel, dd⟩ := dk_rd I.hok e
    obtain ⟨w', hw, rw'⟩ := RelO.some_of (v := v) (o := valueAt vs k) (by rw [l]; exact rel.val k)
    exact wpAny_getItem_of (kV_is ry) dd.mapOf hw (h w' _ (I.tok _) rw')
  · subst ey
    cases (show u = Value.ref b from ry)
    obtain ⟨z, hd, xs, rel, dd⟩ := dt_rd I.hok e
    obtain ⟨w', hw, rw'⟩ := RelO.some_of (v := v) (o := (atKey xs k).map (·.2)) (by rw [l]; exact rel.val k)
    obtain ⟨p, hp, hp2⟩ := Option.map_eq_some_iff.mp hw
    refine wpAny_getItem_heap (tupleKind_room_in1 hu) (key_of I.hok eb) dd hp ?_
    rw [hp2]
    exact h w' _ (I.tok _) rw'
theorem d_in {Q : Value → Shared → Prop} (hu : A.units + 1 < cLine) (I : Inv X pins σ H s) (g : DGet H a y o) (ry : RelV y u) (h : ∀ s', Inv X pins σ H s' → Q (.bool o.isSome) s') :
    wpAny (model X.prog X.w) A (compareOp .In u (.ref a)) Q E s := by
  rcases g with ⟨kvs, k, e, ey, l⟩ | ⟨kvs, k, b, e, ey, eb, l⟩
  · subst ey
    obtain ⟨z, hd, vs, rel, dd⟩ := dk_rd I.hok e
    refine wpAny_in_of (kV_is ry) hd dd.mapOf ?_
    rw [← (rel.val k).isSome_eq, ← l]
    exact h _ (I.tok _)
  · subst ey
    cases (show u = Value.ref b from ry)
    obtain ⟨z, hd, xs, rel, dd⟩ := dt_rd I.hok e
    refine wpAny_in_heap (tupleKind_room_in1 hu) (key_of I.hok eb) hd dd ?_
    have q := (rel.val k).isSome_eq
    rw [Option.isSome_map] at q
    rw [← q, ← l]
    exact h _ (I.tok _)
theorem d_write {h' : Heap} {t' : Nat} {ob : HO} (I : Inv X pins σ H s) (mu : Mut (H a)) (hs : Heap.SameBut a s.heap h') (he : ∃ q, h'.get? a = some q) (new : ObjOk X.prog X.w (upd H a ob) h' a ob) :
    Inv X pins σ (upd H a ob) { s with heap := h', toks := t' } :=
  I.write (x := a) (e := a) mu (.inl rfl) (fun b q hb z => (hs.2 b hb).trans z) he new
theorem dk_new {P : Program} {w : World} {H' : Hp} {h' : Heap} {kvs : List (Key × V)} {vs : List (Key × Value)} (z : kvs.length ≤ sizeLine) (hd : (a == sysModules) = false) (rel : KV kvs vs) (dd : h'.DictOf (mixKind P w) a vs) :
    ObjOk P w H' h' a (.dK kvs) := ⟨z, hd, vs, rel, dd⟩
theorem d_setItem {H' : Hp} {Q : Unit → Shared → Prop} (hu : A.units + 1 < cLine) (I : Inv X pins σ H s) (g : DPut H a y v H') (ry : RelV y u) (rv : RelV v r) (h : ∀ s', Inv X pins σ H' s' → Q () s') :
    wpAny (model X.prog X.w) A (setItem (.ref a) u r) Q E s := by
  rcases g with ⟨kvs, k, e, ey, l, eH⟩ | ⟨kvs, k, b, e, ey, eb, l, eH⟩
  · subst ey eH
    obtain ⟨z, hd, vs, rel, dd⟩ := dk_of I.hok e
    have hz : vs.length ≤ sizeLine := by rw [← rel.length]; exact z
    have hl : (putK kvs k v).length ≤ sizeLine := by have := length_putK kvs k v; omega
    refine wpAny_setItem_pairs (hsz := hz) (kV_is ry) dd fun h' dd' hs => h _ ?_
    have he : ∃ q, h'.get? a = some q := let ⟨q, _, _, hq, _⟩ := dd'; ⟨q, hq⟩
    exact d_write I (by rw [e]; exact True.intro) hs he (dk_new hl hd (rel.put k rv) dd')
  · subst ey eH
    cases (show u = Value.ref b from ry)
    obtain ⟨z, hd, xs, rel, dd⟩ := dt_of I.hok e
    have hz : xs.length ≤ sizeLine := by rw [← Paired.length rel]; exact z
    have hl : (putK kvs k v).length ≤ sizeLine := by have := length_putK kvs k v; omega
    refine wpAny_setItem_heap (hsz := hz) (tupleKind_room_in1 hu) (key_of I.hok eb) dd fun h' dd' hs => h _ ?_
    obtain ⟨q, es, ep, hq, h2, h3, h4, _, h5⟩ := dd'
    refine d_write I (by rw [e]; exact True.intro) hs ⟨q, hq⟩ ⟨hl, hd, _, (rel.put k eb rv).keeps fun c ys ec => ?_, q, es, ep, hq, h2, h3, h4, h5⟩
    rw [upd_ne (ne_of ec e (fun z => nomatch z))]
    exact ec
end
section
variable {X : Cx} {pins : List (Addr × Obj)} {σ : St} {H : Hp} {s : Shared} {a : Addr} {kvs : List (Key × V)} {k : Key} {u : Value} {A : Around} {E : Value → Shared → Prop}
end
def NoSl (i : Expr) : Prop := ∀ ov iv, subscripted i false ov iv = operate [ov, iv] (getItem ov iv)
theorem subD_of {prog : Program} {w : World} {A : Around} {E : Value → Shared → Prop} {s : Shared} {env : Env} {value slice : Expr} {pos : Pos} {T id : String} {Q : Value → Shared → Prop}
    (hl : typeLookup (.type T) "__getitem__" = pure (some (.builtin id))) (hs : NoSl slice)
    (h : wpAny (model prog w) A (eval value env) (fun o s₁ => wpAny (model prog w) A (eval slice env) (fun i s₂ => s₂.TypeIs o T ∧ wpAny (model prog w) A (getItem o i) Q E s₂) E s₁) E s) :
    wpAny (model prog w) A (eval (.Subscript value slice pos) env) Q E s := by
  refine Subscript_ (wpAny_mono h (fun o s₁ h₁ => wpAny_mono h₁ (fun i s₂ h₂ => ?_) fun _ _ x => x) fun _ _ x => x)
  obtain ⟨hT, h₂⟩ := h₂
  unfold subscriptTail
  refine wpAny_bind ?_
  rw [getitemInPython_of_ne hT.not_modules]
  refine wpAny_bind (wpAny_specialOf hT hl ?_)
  have fin : wpAny (model prog w) A (subscripted slice false o i) (fun r s₃ => wpAny (model prog w) A (letTemporaryGo value o r >>= fun _ => pure r) Q E s₃) E s₂ := by
    rw [hs o i]
    exact wpAny_operating (wpAny_mono h₂ (fun r s₃ h₃ => wpAny_bind (wpAny_letTemporaryGo (wpAny_pure h₃))) fun _ _ x => x)
  first
    | exact wpAny_pure (wpAny_bind fin)
    | exact wpAny_bind (wpAny_pure (wpAny_bind fin))
    | exact wpAny_bind fin
theorem dict_typeIs {X : Cx} {pins : List (Addr × Obj)} {σ : St} {H : Hp} {s : Shared} {a : Addr} {y : V} {o : Option V} (I : Inv X pins σ H s) (g : DGet H a y o) : s.TypeIs (.ref a) "dict" := by
  rcases g with ⟨kvs, k, e, _, _⟩ | ⟨kvs, k, b, e, _, _, _⟩
  · obtain ⟨_, _, vs, _, dd⟩ := dk_rd I.hok e
    exact dd.typeIs
  · obtain ⟨_, _, xs, _, dd⟩ := dt_rd I.hok e
    exact dd.typeIs
def tDGet (td ty : TE) : TE := fun σ H Q => td σ H fun x H1 => ty σ H1 fun y H2 => ∃ a v, x = .ref a ∧ DGet H2 a y (some v) ∧ Q v H2
def tDIn (ty td : TE) : TE := fun σ H Q => ty σ H fun y H1 => td σ H1 fun x H2 => ∃ a o, x = .ref a ∧ DGet H2 a y o ∧ Q (.bl o.isSome) H2
def sDPut (td ty tv : TE) : TS := fun D σ H => tv σ H fun v H1 => td σ H1 fun x H2 => ty σ H2 fun y H3 => ∃ a H4, x = .ref a ∧ DPut H3 a y v H4 ∧ D.nx σ H4
section
variable {X : Cx} {o i e value : Expr} {pos pos' tpos : Pos} {td ty tv : TE}
theorem pe_dget (hu : X.A.units + 1 < cLine) (ho : PE X o td) (hi : PE X i ty) (hs : NoSl i) : PE X (.Subscript o i pos) (tDGet td ty) := by
  intro pins s σ H Q I h
  refine subD_of PySem.F.slot_dict_getitem.lookup hs (thn (ho pins s σ H _ I h) fun u s1 ⟨x, H1, I1, rx, q1⟩ => thn (hi pins s1 σ H1 _ I1 q1) fun iv s2 ⟨y, H2, I2, ry, a, v, ex, g, q2⟩ => ?_)
  subst ex
  obtain rfl : u = Value.ref a := rx
  exact ⟨dict_typeIs I2 g, d_getItem hu I2 g ry fun w' s3 I3 rw' => ⟨v, H2, I3, rw', q2⟩⟩
theorem pc_din (hu : X.A.units + 1 < cLine) (hi : PE X i ty) (ho : PE X o td) : PC X .In i o (tDIn ty td) := by
  intro pins s σ H Q I h
  refine thn (hi pins s σ H _ I h) fun iv s1 ⟨y, H1, I1, ry, q1⟩ => thn (ho pins s1 σ H1 _ I1 q1) fun u s2 ⟨x, H2, I2, rx, a, ov, ex, g, q2⟩ => ?_
  subst ex
  obtain rfl : u = Value.ref a := rx
  exact d_in hu I2 g ry fun s3 I3 => ⟨.bl ov.isSome, H2, I3, rfl, q2⟩
theorem ps_dput (hu : X.A.units + 1 < cLine) (ho : PE X o td) (hi : PE X i ty) (hv : PE X value tv) (hs : swapsWith value (some (.Subscript o i pos')) pos.line X.env = pure false) :
    PS X (.Assign [.Subscript o i pos'] value pos) (sDPut td ty tv) := by
  intro pins s σ H D I h
  refine wpAny_Assign_Subscript (thn (hv pins s σ H _ I h) fun r s1 ⟨v, H1, I1, rv, q1⟩ => thn (ho pins s1 σ H1 _ I1 q1) fun u s2 ⟨x, H2, I2, rx, q2⟩ => thn (hi pins s2 σ H2 _ I2 q2) fun iv s3 ⟨y, H3, I3, ry, a, H4, ex, g, q3⟩ => ?_) hs
  subst ex
  obtain rfl : u = Value.ref a := rx
  exact d_setItem hu I3 g ry rv fun s4 I4 => ⟨σ, H4, I4, q3⟩
end
theorem dk_empty {P : Program} {w : World} {H : Hp} (h : Heap) (hb : sysModules < h.objs.size) : ObjOk P w H (h.push { cls := .type "dict", data := .dict #[] }) h.objs.size (.dK []) :=
  ⟨Nat.zero_le _, beq_eq_false_iff_ne.mpr (Ne.symm (Nat.ne_of_lt hb)), [], .nil, Heap.DictOf.new h⟩
section
variable {X : Cx} {pos : Pos}
end
def tPairs : List (TE × TE) → St → Hp → (List (V × V) → Hp → Prop) → Prop
  | [], _, H, Q => Q [] H
  | (tk, tv) :: r, σ, H, Q => tk σ H fun x H1 => tv σ H1 fun y H2 => tPairs r σ H2 fun ps H3 => Q ((x, y) :: ps) H3
abbrev VV : List (V × V) → List (Value × Value) → Prop := Paired fun p q => RelV p.1 q.1 ∧ RelV p.2 q.2
def PPs (X : Cx) (pos : Pos) (keys : List (Option Expr)) (values : List Expr) (trs : List (TE × TE)) : Prop :=
  ∀ (pins : List (Addr × Obj)) (s : Shared) (σ : St) (H : Hp) (Q : List (V × V) → Hp → Prop), Inv X pins σ H s → tPairs trs σ H Q →
    wpAny (model X.prog X.w) X.A (evalPairs (pairTrees keys values X.env pos)) (fun vs s' => ∃ ps H', Inv X pins σ H' s' ∧ VV ps vs ∧ Q ps H') X.xe s
theorem pps_nil {X : Cx} {pos : Pos} : PPs X pos [] [] [] := fun pins s σ H Q I h => pairTrees_nil_walk ⟨[], H, I, .nil, h⟩
theorem pps_cons {X : Cx} {pos : Pos} {k v : Expr} {ks : List (Option Expr)} {vs : List Expr} {tk tv : TE} {trs : List (TE × TE)} (hk : PE X k tk) (hv : PE X v tv) (hr : PPs X pos ks vs trs) :
    PPs X pos (some k :: ks) (v :: vs) ((tk, tv) :: trs) := fun pins s σ H Q I h =>
  pairTrees_cons_walk (thn (hk pins s σ H _ I h) fun u s1 ⟨x, H1, I1, rx, q1⟩ => thn (hv pins s1 σ H1 _ I1 q1) fun w2 s2 ⟨y, H2, I2, ry, q2⟩ =>
    thn (hr pins s2 σ H2 _ I2 q2) fun ws s3 ⟨ps, H3, I3, rel, q3⟩ => ⟨(x, y) :: ps, H3, I3, .cons ⟨rx, ry⟩ rel, q3⟩)
def mergeK (kvs more : List (Key × V)) : List (Key × V) := more.foldl (fun acc kv => putK acc kv.1 kv.2) kvs
theorem KV.merge : ∀ {more : List (Key × V)} {rs : List (Key × Value)} {kvs : List (Key × V)} {vs : List (Key × Value)}, KV more rs → KV kvs vs → KV (mergeK kvs more) (merged vs rs) := by
  intro more rs kvs vs r
  unfold KV at r
  induction r generalizing kvs vs with
  | nil => intro q; exact q
  | @cons p q ps qs h t ih =>
    intro r0
    have e : KV (putK kvs p.1 p.2) (stored vs q.1 q.2) := by
      have := r0.put p.1 h.2
      rw [← h.1]; exact this
    exact ih e
theorem length_mergeK : ∀ (more kvs : List (Key × V)), (mergeK kvs more).length ≤ kvs.length + more.length
  | [], kvs => by show kvs.length ≤ kvs.length + 0; omega
  | p :: r, kvs => by
    have h1 := length_mergeK r (putK kvs p.1 p.2)
    have h2 := length_putK kvs p.1 p.2
    show (mergeK (putK kvs p.1 p.2) r).length ≤ _
    rw [List.length_cons]; omega
theorem carries_of {P : Program} {w : World} : ∀ {kvs : List (Key × V)} {ws : List (Value × Value)}, VV (kvs.map fun kv => (kV kv.1, kv.2)) ws → ∃ rs, Carries (mixKind P w) ws rs ∧ KV kvs rs
  | [], _, r => by rw [List.map_nil] at r; cases r; exact ⟨[], True.intro, .nil⟩
  | p :: kvs, _, r => by
    rw [List.map_cons] at r
    cases r with
    | @cons a b as bs h t =>
      obtain ⟨rs, c, q⟩ := carries_of (P := P) (w := w) t
      obtain ⟨b1, b2⟩ := b
      exact ⟨(p.1, b2) :: rs, ⟨kV_is h.1, rfl, c⟩, .cons ⟨rfl, h.2⟩ q⟩
def tDisp (trs : List (TE × TE)) : TE := fun σ H Q => ∀ p, H p = none → tPairs trs σ (upd H p (.dK [])) fun ps H2 => H2 p = some (.dK []) ∧ ∃ kvs : List (Key × V), ps = kvs.map (fun kv => (kV kv.1, kv.2)) ∧ kvs.length ≤ 15 ∧ Q (.ref p) (upd H2 p (.dK (mergeK [] kvs)))
theorem pe_disp {X : Cx} {pos : Pos} {keys : List (Option Expr)} {values : List Expr} {trs : List (TE × TE)} (h : PPs X pos keys values trs) (hall : keys.all (·.isSome) = true) (hl : keys.length = values.length) (h0 : keys ≠ [])
    (h15 : keys.length ≤ 15) : PE X (.Dict keys values pos) (tDisp trs) := by
  intro pins s σ H Q I q
  have hn := I.hok.fresh (Nat.le_refl s.heap.objs.size)
  have I1 := I.laid (a := s.heap.objs.size) (o := .dK []) (h' := s.heap.push { cls := .type "dict", data := .dict #[] }) (t' := s.toks) (fun _ _ q => Heap.get?_push_of_some _ q) (Nat.le_refl _) (dk_empty s.heap I.big)
  refine wpAny_Dict_walk (knd := mixKind X.prog X.w) hall hl h0 h15 (thn (h pins _ σ _ _ I1 (q _ hn)) fun ws s2 ⟨ps, H2, I2, rel, e, kvs, ep, lk, q2⟩ => ?_)
  subst ep
  obtain ⟨rs, c, rk⟩ := carries_of (P := X.prog) (w := X.w) rel
  obtain ⟨z, hd, vs0, r0, dd⟩ := dk_of I2.hok e
  cases r0
  refine ⟨rs, c, dd, fun h' dd' hs => ⟨.ref s.heap.objs.size, _, ?_, rfl, q2⟩⟩
  have hz : (mergeK [] kvs).length ≤ sizeLine := by
    have h1 := length_mergeK kvs []
    rw [List.length_nil] at h1
    rw [sizeLine_eq]; omega
  have he : ∃ q, h'.get? s.heap.objs.size = some q := let ⟨q, _, _, hq, _⟩ := dd'; ⟨q, hq⟩
  exact d_write I2 (by rw [e]; exact True.intro) hs he (dk_new hz hd (rk.merge .nil) dd')
section
variable {X : Cx} {pins : List (Addr × Obj)} {σ : St} {H : Hp} {s : Shared} {a : Addr} {y d : V} {u r : Value} {o : Option V} {A : Around} {E : Value → Shared → Prop}
end
section
variable {X : Cx} {o e f : Expr} {apos cpos : Pos} {td ty tx : TE}
end
section
variable {X : Cx} {pins : List (Addr × Obj)} {σ : St} {H : Hp} {s : Shared} {a : Addr} {kvs : List (Key × V)} {A : Around} {E : Value → Shared → Prop}
end
section
variable {X : Cx} {pins : List (Addr × Obj)} {σ : St} {H : Hp} {s : Shared} {a : Addr} {y : V} {u : Value} {A : Around} {E : Value → Shared → Prop}
end
end L2
namespace Att
open PySem PySem.W PySem.Calls PyProof.Rows
section
variable {prog : Program} {w : World} {A : Around} {E : Value → Shared → Prop} {s : Shared} {K : Frag}
end
end Att
namespace L2
open PySem PySem.Spec PyProof.Rows
end L2
namespace L2
open PySem PySem.Spec PyProof.Rows
end L2
/- THE LAST THEOREM (shape; LID, My.* are yours):
   My.Adr: a structure of the addresses that your layer names (classes, functions); My.Txt K t: a structure (Prop) of the equations over K;
   My.txt_mk : {K} {implicit addresses ..} (e1 : nsIn K mainGlobals "law" = some (some (.ref f))) (e2 : K.lookup f = some ⟨oc, od, .func (fnOf "law" "law" params body scope dV kV doc pm an cdv ct), sl⟩) (e3 : codeIn K cdv "law" = true) .. : ∃ t, My.Txt K t
(the tactic k_is has no namespace: write k_is) -/
namespace L2
open PySem PySem.Spec PyProof.Rows
section
variable {P : Program} {w : World} {K : PySem.W.Frag} {mg : Str → Option Value} {base : Heap}
end
section
variable {X : Cx}
end
section
variable {κ : Type} [DecidableEq κ]
end
end L2
set_option Elab.async false
set_option linter.all false
set_option maxRecDepth 100000
namespace L2
open PySem PySem.Spec PyProof.Rows PySem.W
section
variable {O : KeyOrd} {key : Nat → O.α} {N : Nat} {p : Array Nat}
def kk (key : Nat → O.α) (p : Array Nat) (i : Nat) : O.α := key (p[i]?.getD 0)
end
end L2
set_option Elab.async false
set_option linter.all false
set_option maxRecDepth 100000
namespace L2
open PySem PySem.Spec PyProof.Rows PySem.W
section
variable {prog : Program} {w : World} {A : Around} {E : Value → Shared → Prop} {s : Shared}
end
end L2
set_option Elab.async false
set_option linter.all false
set_option maxRecDepth 100000
namespace L2
open PySem PySem.Spec PyProof.Rows PySem.W
section
variable {prog : Program} {w : World} {A : Around} {E : Value → Shared → Prop} {s : Shared}
end
section
variable {X : Cx}
end
end L2
set_option Elab.async false
set_option linter.all false
set_option maxRecDepth 100000
namespace L2
open PySem PySem.Spec PyProof.Rows PySem.W
section
variable {prog : Program} {w : World} {A : Around} {E : Value → Shared → Prop} {s : Shared}
variable {κ : SortKind} {D : Keyed → Prop} {lt : Keyed → Keyed → Bool}
end
end L2
set_option Elab.async false
set_option linter.all false
set_option maxRecDepth 100000
namespace L2
open PySem PySem.Spec PyProof.Rows PySem.W
section
variable {O : KeyOrd} {kf : Keyed → O.α} {la lb o : List Keyed} {ia ib : Nat}
def leK (kf : Keyed → O.α) (x y : Keyed) : Prop := O.kle (kf x) (kf y)
structure MS (kf : Keyed → O.α) (la lb o : List Keyed) (ia ib : Nat) : Prop where
  perm : o.Perm (la.take ia ++ lb.take ib)
  sorted : o.Pairwise (leK kf)
  ra : ∀ x ∈ o, ∀ y ∈ la.drop ia, leK kf x y
  rb : ∀ x ∈ o, ∀ y ∈ lb.drop ib, leK kf x y
def Merged (kf : Keyed → O.α) (la lb o : List Keyed) : Prop := o.Perm (la ++ lb) ∧ o.Pairwise (leK kf)
end
end L2
set_option Elab.async false
set_option linter.all false
set_option maxRecDepth 100000
set_option maxHeartbeats 2000000
namespace L2
open PySem PySem.Spec PyProof.Rows PySem.W
abbrev T2 : Type := Option (Array Keyed) × Array Keyed × Nat × Nat × Nat × Nat × Nat
section
variable {prog : Program} {w : World} {A : Around} {E : Value → Shared → Prop} {s : Shared} {κ : SortKind} {D : Keyed → Prop} {O : KeyOrd} {kf : Keyed → O.α} {a b out : Array Keyed} {ia ib : Nat} {st : SortSt}
def Good (st st' : SortSt) : Prop := kindOf st' = kindOf st ∧ arrOf st' = arrOf st ∧ pendingOf st' = pendingOf st ∧ failedOf st' = failedOf st
def MI (kf : Keyed → O.α) (a b out : Array Keyed) (ia ib : Nat) : Prop := MS kf a.toList b.toList out.toList ia ib ∧ ia + 1 < a.size ∧ ib < b.size
def MergedA (kf : Keyed → O.α) (a b r : Array Keyed) : Prop := Merged kf a.toList b.toList r.toList
def P2 (kf : Keyed → O.α) (st : SortSt) (a b : Array Keyed) (c0 : Nat) (c : T2) (st' : SortSt) : Prop := Good st st' ∧ ((∃ r, c.1 = some r ∧ MergedA kf a b r) ∨ (c.1 = none ∧ MI kf a b c.2.1 c.2.2.1 c.2.2.2.1 ∧ c0 ≤ c.2.2.1 + c.2.2.2.1))
variable {c0 mg k k1 bc ac : Nat} {st' : SortSt}
end
end L2
set_option Elab.async false
set_option linter.all false
set_option maxRecDepth 100000
set_option maxHeartbeats 2000000
namespace L2
open PySem PySem.Spec PyProof.Rows PySem.W
section
variable {O : KeyOrd} {kf : Keyed → O.α} {la lb o : List Keyed} {na nb : Nat}
end
end L2
set_option Elab.async false
set_option linter.all false
set_option maxRecDepth 100000
set_option maxHeartbeats 2000000
namespace L2
open PySem PySem.Spec PyProof.Rows PySem.W
section
variable {prog : Program} {w : World} {A : Around} {E : Value → Shared → Prop} {s : Shared} {κ : SortKind} {D : Keyed → Prop} {O : KeyOrd} {kf : Keyed → O.α} {a b out : Array Keyed} {na nb : Nat} {st : SortSt}
variable {c0 mg k k1 bc ac : Nat} {st' : SortSt}
end
end L2
set_option Elab.async false
set_option linter.all false
set_option maxRecDepth 100000
set_option maxHeartbeats 2000000
namespace L2
open PySem PySem.Spec PyProof.Rows PySem.W
end L2
set_option Elab.async false
set_option linter.all false
set_option maxRecDepth 100000
set_option maxHeartbeats 2000000
namespace L2
open PySem PySem.Spec PyProof.Rows PySem.W
section
variable {prog : Program} {w : World} {A : Around} {E : Value → Shared → Prop} {s : Shared} {κ : SortKind} {D : Keyed → Prop} {O : KeyOrd} {kf : Keyed → O.α} {st : SortSt}
variable {arr : Array Keyed} {P LA LB R : List Keyed}
end
end L2
set_option Elab.async false
set_option linter.all false
set_option maxRecDepth 100000
set_option maxHeartbeats 2000000
namespace L2
open PySem PySem.Spec PyProof.Rows PySem.W
section
variable {prog : Program} {w : World} {A : Around} {E : Value → Shared → Prop} {s : Shared} {κ : SortKind} {D : Keyed → Prop} {O : KeyOrd} {kf : Keyed → O.α} {st : SortSt}
section
variable {arr : Array Keyed} {lo k l i : Nat} (hs : lo + k < arr.size) (hd : l ≤ k)
include hs hd
end
end
end L2
set_option Elab.async false
set_option linter.all false
set_option maxRecDepth 100000
set_option maxHeartbeats 2000000
namespace L2
open PySem PySem.Spec PyProof.Rows PySem.W
section
variable {prog : Program} {w : World} {A : Around} {E : Value → Shared → Prop} {s : Shared} {κ : SortKind} {D : Keyed → Prop} {O : KeyOrd} {kf : Keyed → O.α} {st : SortSt}
end
end L2
set_option Elab.async false
set_option linter.all false
set_option maxRecDepth 100000
set_option maxHeartbeats 2000000
namespace L2
open PySem PySem.Spec PyProof.Rows PySem.W
section
variable {prog : Program} {w : World} {A : Around} {E : Value → Shared → Prop} {s : Shared} {κ : SortKind} {D : Keyed → Prop} {O : KeyOrd} {kf : Keyed → O.α} {st : SortSt} {a0 : Array Keyed}
end
end L2
set_option Elab.async false
set_option linter.all false
set_option maxRecDepth 100000
set_option maxHeartbeats 2000000
namespace L2
open PySem PySem.Spec PyProof.Rows PySem.W
section
variable {prog : Program} {w : World} {A : Around} {E : Value → Shared → Prop} {s : Shared} {κ : SortKind} {D : Keyed → Prop} {O : KeyOrd} {kf : Keyed → O.α} {st : SortSt} {a0 : Array Keyed} {runs : List (List Keyed)} {rest : List Keyed}
end
end L2
set_option Elab.async false
set_option linter.all false
set_option maxRecDepth 100000
set_option maxHeartbeats 2000000
namespace L2
open PySem PySem.Spec PyProof.Rows PySem.W
section
variable {prog : Program} {w : World} {A : Around} {E : Value → Shared → Prop} {s : Shared} {κ : SortKind} {D : Keyed → Prop} {O : KeyOrd} {kf : Keyed → O.α} {st : SortSt} {a0 : Array Keyed} {runs : List (List Keyed)} {rest : List Keyed}
end
end L2
set_option Elab.async false
set_option linter.all false
set_option maxRecDepth 100000
set_option maxHeartbeats 2000000
namespace L2
open PySem PySem.Spec PyProof.Rows PySem.W
section
variable {prog : Program} {w : World} {A : Around} {E : Value → Shared → Prop} {s : Shared}
end
section
variable {prog : Program} {w : World} {A : Around} {E : Value → Shared → Prop} {s : Shared}
end
section
variable {X : Cx}
end
end L2
set_option Elab.async false
set_option linter.all false
set_option maxRecDepth 100000
set_option maxHeartbeats 2000000
namespace L2
open PySem PySem.Spec PyProof.Rows PySem.W
section
variable {prog : Program} {w : World} {A : Around} {E : Value → Shared → Prop} {s : Shared} {it d : Addr} {i ep : Nat} {es : Array DictEntry}
end
section
variable {prog : Program} {w : World} {A : Around} {E : Value → Shared → Prop} {s : Shared}
end
section
variable {X : Cx}
end
end L2
set_option Elab.async false
set_option linter.all false
namespace L2
open PySem PySem.Spec PyProof.Rows
variable {X : Cx}
end L2
set_option Elab.async false
set_option linter.all false
set_option maxRecDepth 100000
set_option maxHeartbeats 2000000
namespace L2
open PySem PySem.Spec PyProof.Rows PySem.W
section
variable {prog : Program} {w : World} {A : Around} {E : Value → Shared → Prop} {s : Shared} {d : Addr} {ep : Nat} {es : Array DictEntry}
end
section
variable {X : Cx}
variable {a b c e o i value : Expr} {es rest : List Expr} {ta tb tc te to td ty tv : TE} {t : TA} {pos p apos cpos p2 pos' tpos : Pos}
theorem jv_din (hu : X.A.units + 60 < cLine) (hi : JE X i ty) (ho : JE X o td) (hm : behindInMarks .In o = false) : JE X (.Compare i [.In] [o] pos) (tDIn ty td) := ⟨pe_cmp (pc_din (by omega) hi.h ho.h) hm⟩
theorem js_dput (hu : X.A.units + 60 < cLine) (ho : JE X o td) (hi : JE X i ty) (hv : JE X value tv) (hs : swapsWith value (some (.Subscript o i pos')) pos.line X.env = pure false := by rfl) : JS X (.Assign [.Subscript o i pos'] value pos) (sDPut td ty tv) := ⟨ps_dput (by omega) ho.h hi.h hv.h hs⟩
theorem j_fld (K : PySem.W.Frag) {f : Str} (he : JE X e ta) (hK : X.K = K := by rfl) (hb : attributeBase e f X.env (eval e X.env) = eval e X.env := by rfl) : JE X (.Attribute e f pos) (tFld K ta f) := by
  subst hK
  exact ⟨pe_fld he.h hb⟩
theorem js_fld (K : PySem.W.Frag) {f : Str} (ha : JE X o ta) (hv : JE X value tv) (hK : X.K = K := by rfl) (hs : swapsWith value (some (.Attribute o f pos')) pos.line X.env = pure false := by rfl) : JS X (.Assign [.Attribute o f pos'] value pos) (sFld K ta tv f) := by
  subst hK
  exact ⟨ps_fld ha.h hv.h hs⟩
end
structure MethOk (P : Program) (w : World) (K : PySem.W.Frag) (mg : Str → Option Value) (base : Heap) (C : Addr) (m : Str) (k : Nat) (ps : List Str) (sp : Sp) : Prop where
  ex : ∃ f fd, Meth K C m f ∧ Binds K fd ps [] ∧ FnOk P w K mg base CX0 k f fd ps sp
structure MethAt (K : PySem.W.Frag) (C : Addr) (m qual : Str) (st : Stmt) (ps : List Str) : Prop where
  ex : ∃ f fd, Meth K C m f ∧ Fun K m qual st f fd ∧ Binds K fd ps []
structure MakeOk (P : Program) (w : World) (K : PySem.W.Frag) (mg : Str → Option Value) (base : Heap) (x : Str) (C : Addr) (k : Nat) (ps : List Str) (sp : Sp) : Prop where
  ex : ∃ f fd, mg x = some (.ref C) ∧ Mk K C f ∧ Binds K fd ps [] ∧ FnOk P w K mg base CX0 k f fd ps sp
section
variable {P : Program} {w : World} {K : PySem.W.Frag} {mg : Str → Option Value} {base : Heap} {C : Addr} {m qual : Str} {st : Stmt} {N ps : List Str} {k : Nat} {sp : Sp}
theorem MethAt.fnJ (F : MethAt K C m qual st ps) (S : FnScope N ps (defScope st)) (len : ∀ vs H Q E, sp vs H Q E → vs.length = ps.length)
    (hbody : ∀ (cdv : Value) (f : Addr) (A : Around) (outer : List Env) (s : Shared) (H : Hp) (vs : List V) (Q : VK) (E : XK), Room k (A.deeper (envOfC qual (defScope st) s.heap.objs.size f cdv)) → sp vs H Q E →
      ∃ t, JB (cxOf CX0 P w K mg base N qual (defScope st) f cdv A outer s H E).nox (defBody st) t ∧ t { nx := fun _ H' => Q .non H', rt := Q } (start N vs) H) : MethOk P w K mg base C m (k + 1) ps sp := by
  obtain ⟨f, fd, h1, h2, h3⟩ := F.ex
  exact ⟨f, fd, h1, h3, h2.okJ S len fun cdv => hbody cdv f⟩
theorem MethOk.make {x : Str} (O : MethOk P w K mg base C "__init__" k ps sp) (hx : mg x = some (.ref C)) (hm : PySem.W.makesIn K C = true) (hk : PySem.W.keepIn K (.ref C) = true) : MakeOk P w K mg base x C k ps sp := by
  obtain ⟨f, fd, h1, h2, h3⟩ := O.ex
  exact ⟨f, fd, hx, ⟨hm, h1.at_, h1.fn, hk⟩, h2, h3⟩
end
section
variable {X : Cx} {C : Addr} {m x : Str} {k : Nat} {ps : List Str} {sp : Sp} {o e : Expr} {es : List Expr} {ta : TE} {t : TA} {pos apos p : Pos}
theorem j_meth {pl : Sem Bool} (O : MethOk X.prog X.w X.K X.mg X.base C m k ps sp) (c : Cls X.K C) (hr : Room k X.A) (he : JE X o ta) (ha : JA X (e :: es) t)
    (hst : starEach (e :: es) X.env = (false, eval e X.env) :: starEach es X.env := by rfl) (hpl : (backTo pos (starEach es X.env)).any (·.1) = false := by rfl)
    (ht : eval (.Call (.Attribute o m apos) (e :: es) [] pos) X.env = (eval o X.env >>= fun ov => standAt apos.atName >>= fun _ => holding [ov] (getMethod ov m pl) >>= fun p => match p with | (f, first) => callWith pos f first (backTo pos (starEach (e :: es) X.env)) (backToKw pos (keywordEach [] X.env))) := by rfl) :
    JE X (.Call (.Attribute o m apos) (e :: es) [] pos) (tMeth C m sp [] E0 ta t) := by
  obtain ⟨f, fd, h1, h2, h3⟩ := O.ex
  exact ⟨pe_meth (pl := pl) he.h c h1 h3 hr h2 .nil pass0 ha.h hst hpl ht⟩
theorem j_make0 (O : MakeOk X.prog X.w X.K X.mg X.base x C k ps sp) (hr : Room (k + 1) X.A) (hg : Gl X x) (hdb : (x == ("__debug__" : Str)) = false := by decide) :
    JE X (.Call (.Name x p) [] [] pos) (tMake C sp [] E0 tNil) := by
  obtain ⟨f, fd, h0, h1, h2, h3⟩ := O.ex
  exact ⟨pe_make0 h1 h3 hr hg h0 h2 .nil pass0 hdb⟩
end
end L2
set_option Elab.async false
set_option linter.all false
set_option maxRecDepth 100000
namespace L2
open PySem PySem.Spec PyProof.Rows
def Prs (H : Hp) (ps : List V) (f : Nat → List Int) (js : List Nat) : Prop := ps.length = js.length ∧ ∀ (i : Nat) (q : V), ps[i]? = some q → ∃ (j : Nat) (b : Addr) (v : V), js[i]? = some j ∧ q = .ref b ∧ H b = some (.tup [.int j, v]) ∧ IT H v (f j)
theorem Prs.same {H H' : Hp} {ps : List V} {f : Nat → List Int} {js : List Nat} (h : Prs H ps f js) (s : Same H H') : Prs H' ps f js :=
  ⟨h.1, fun i q e => let ⟨j, b, v, e1, e2, e3, e4⟩ := h.2 i q e; ⟨j, b, v, e1, e2, s _ _ e3, e4.same s⟩⟩
theorem Prs.snoc {H : Hp} {ps : List V} {f : Nat → List Int} {js : List Nat} {j : Nat} {b : Addr} {v : V} (h : Prs H ps f js) (hb : H b = some (.tup [.int j, v])) (hv : IT H v (f j)) : Prs H (ps ++ [.ref b]) f (js ++ [j]) := by
  refine ⟨by rw [List.length_append, List.length_append, h.1]; rfl, fun i q e => ?_⟩
  rcases Nat.lt_or_ge i ps.length with hi | hi
  · rw [List.getElem?_append_left hi] at e
    obtain ⟨j', b', v', e1, e2⟩ := h.2 i q e
    exact ⟨j', b', v', by rw [List.getElem?_append_left (by rw [← h.1]; exact hi)]; exact e1, e2⟩
  · rw [List.getElem?_append_right hi] at e
    have hi0 : i - ps.length = 0 := by
      rcases Nat.eq_zero_or_pos (i - ps.length) with z | z
      · exact z
      · rw [List.getElem?_eq_none (by simp; omega)] at e; cases e
    rw [hi0] at e
    cases e
    exact ⟨j, b, v, by rw [List.getElem?_append_right (by rw [← h.1]; exact hi), ← h.1, hi0]; rfl, rfl, hb, hv⟩
section
variable {X : Cx} {k : Nat} {ps : List Str} {sp : Sp} {x y : Str} {p pos cpos pos' ip sp' : Pos} {e : Expr} {es : List Expr} {t : TA} {i : Nat} {z : Int} {jj : Nat}
end
end L2
set_option Elab.async false
set_option linter.all false
set_option maxRecDepth 100000
section
open PySem PyProof.Rows
end
namespace L2
open PySem PySem.Spec PyProof.Rows
section
variable {X : Cx}
variable {o e : Expr} {es : List Expr} {to : TE} {t : TA} {pos apos cpos : Pos}
end
end L2
set_option Elab.async false
set_option linter.all false
namespace L2
theorem len0 {α : Type} {us : List α} (h : us.length = 0) : us = [] := List.length_eq_zero_iff.mp h
theorem len1 {α : Type} {us : List α} (h : us.length = 1) : ∃ a, us = [a] := by
  cases us with
  | nil => cases h
  | cons a us => exact ⟨a, by rw [len0 (us := us) (Nat.succ.inj h)]⟩
theorem len2 {α : Type} {us : List α} (h : us.length = 2) : ∃ a b, us = [a, b] := by
  cases us with
  | nil => cases h
  | cons a us => obtain ⟨b, e⟩ := len1 (us := us) (Nat.succ.inj h); exact ⟨a, b, by rw [e]⟩
theorem len3 {α : Type} {us : List α} (h : us.length = 3) : ∃ a b c, us = [a, b, c] := by
  cases us with
  | nil => cases h
  | cons a us => obtain ⟨b, c, e⟩ := len2 (us := us) (Nat.succ.inj h); exact ⟨a, b, c, by rw [e]⟩
section
open PySem PySem.Spec PyProof.Rows PySem.W
abbrev FnL (K : PySem.W.Frag) (f : Addr) (nm qn : Str) (st : Stmt) (oc : Value) (od : Option Addr) (sl : Array (Option Value)) (kV dc pm : Value) (an : Option Addr) (cd ct : Value) : Prop := K.lookup f = some ⟨oc, od, .func (PySem.W.fnOf nm qn (defArgs st) (defBody st) (defScope st) .none kV dc pm an cd ct), sl⟩
variable {K : PySem.W.Frag} {h : Heap} {mg : Str → Option Value} {x qn : Str} {st : Stmt} {f : Addr} {od an : Option Addr} {sl : Array (Option Value)} {oc kV dc pm cd ct : Value} {C : Addr} {m : Str}
theorem fa_mk (X : K.In h) (G : h.Ns mainGlobals mg) (a : nsIn K mainGlobals x = some (some (.ref f))) (l : FnL K f x x st oc od sl kV dc pm an cd ct) (c : codeIn K cd x = true) (k : keepIn K (.ref f) = true) {ps : List Str}
    (hb : ∀ (kV doc pm : Value) (an : Option Addr) (cdv ct : Value) (us : List Value), us.length = ps.length → bindArgs (fnOf x x (defArgs st) (defBody st) (defScope st) .none kV doc pm an cdv ct) ⟨us, []⟩ = pure (ps.zip us)) : FunAt K mg x st ps := ⟨f, _, mg_of X G a, fun_mk (st := st) l c k, (fun_mk (st := st) l c k).binds hb⟩
theorem ma_mk (a : findIn K (.ref C) m = some (some (.ref f))) (i : isFn K (.ref f) = true) (l : FnL K f m qn st oc od sl kV dc pm an cd ct) (c : codeIn K cd qn = true) (k : keepIn K (.ref f) = true) {ps : List Str}
    (hb : ∀ (kV doc pm : Value) (an : Option Addr) (cdv ct : Value) (us : List Value), us.length = ps.length → bindArgs (fnOf m qn (defArgs st) (defBody st) (defScope st) .none kV doc pm an cdv ct) ⟨us, []⟩ = pure (ps.zip us)) : MethAt K C m qn st ps := ⟨f, _, ⟨a, i, k⟩, fun_mk (st := st) l c k, (fun_mk (st := st) l c k).binds hb⟩
end
section
open PySem PySem.Spec PyProof.Rows PySem.W
variable {K : PySem.W.Frag} {h : Heap} {mg : Str → Option Value} {x nm qn : Str} {C N : Addr} {bs bm sub bmB above : List Value} {hd ab : Bool} {sn : List Str} {col : Option Bool} {dd : Option Addr} {k0 k1 k2 k3 k5 : Option Value} {newId : String}
end
end L2
set_option Elab.async false
set_option linter.all false
set_option maxRecDepth 100000
namespace L2
namespace Tab
open PySem
def gS : Nat → Nat
  | 0 => 0
  | n + 1 => 5 * gS n + 1
abbrev Pr := SetTable.Probe
def adv (mask : Nat) (p : Pr) : Pr :=
  if p.more > 0 then { p with j := p.j + 1, more := p.more - 1 } else
  { p with j := (SetTable.leap mask p.i p.perturb).1, more := SetTable.runEnd mask (SetTable.leap mask p.i p.perturb).1 - (SetTable.leap mask p.i p.perturb).1, i := (SetTable.leap mask p.i p.perturb).1, perturb := (SetTable.leap mask p.i p.perturb).2 }
def wayF (mask : Nat) (p : Pr) : Nat → Pr
  | 0 => p
  | n + 1 => adv mask (wayF mask p n)
def runS (mask i pt : Nat) : Pr := { j := i, more := SetTable.runEnd mask i - i, i, perturb := pt, dummy := none }
def st0 (mask : Nat) (h : Int) : Pr := runS mask (SetTable.bits h % (mask + 1)) (SetTable.bits h)
def pos (mask : Nat) (h : Int) (n : Nat) : Nat := (wayF mask (st0 mask h) n).j
def fr (owner : Array (Option Nat)) (j : Nat) : Bool := (owner.getD j (some 0)).isNone
end Tab
end L2
set_option Elab.async false
set_option linter.all false
set_option maxRecDepth 100000
set_option maxHeartbeats 2000000
namespace L2
namespace Tab
open PySem
section
variable {prog : Program} {w : World} {A : Around} {E : Value → Shared → Prop} {s : Shared}
theorem items_int {r : List Int} {vs : List Value} (h : ItemsAre (intKind prog w) r vs) : ∀ v ∈ vs, ∃ i t, v = .int i t := by
  induction h with
  | nil => intro v hv; cases hv
  | @cons k v ks vs h1 _ ih =>
    intro u hu
    rcases List.mem_cons.mp hu with e | hu
    · obtain ⟨t, ht⟩ := Value.isInt_shape h1
      exact ⟨k, t, e.trans ht⟩
    · exact ih u hu
def hsh (prog : Program) (w : World) (r : List Int) : Int := tupleKeyHash (intKind prog w) r
end
end Tab
end L2
set_option Elab.async false
set_option linter.all false
set_option maxRecDepth 100000
set_option maxHeartbeats 4000000
namespace L2
namespace Tab
open PySem
section
variable {prog : Program} {w : World} {A : Around} {R : Result → Shared → Prop} {I : Addr} {fp wr : List Addr} {G : Array GenState → Array GenState → Prop} {n : Nat} {P : Nat → Value → Prop} {St : Nat → Shared → Prop}
end
section
variable {prog : Program} {w : World} {A : Around} {E : Value → Shared → Prop} {s : Shared}
end
end Tab
end L2
set_option Elab.async false
set_option linter.all false
set_option maxRecDepth 100000
set_option maxHeartbeats 4000000
namespace L2
namespace Tab
open PySem PySem.W
section
variable {prog : Program} {w : World} {A : Around} {E : Value → Shared → Prop} {s : Shared} {a it : Addr} {es : Array (Int × Value)} {ep i : Nat} {t : SetTable}
end
end Tab
end L2
set_option Elab.async false
set_option linter.all false
set_option maxRecDepth 100000
set_option maxHeartbeats 2000000
namespace L2
open PySem PySem.Spec PyProof.Rows PySem.W Tab
section
variable {X : Cx}
variable {e : Expr} {es : List Expr} {t : TA} {p pos : Pos}
end
end L2
set_option Elab.async false
set_option linter.all false
set_option maxRecDepth 100000
namespace L2
open PySem PySem.Spec PyProof.Rows
section
variable {X : Cx} {a b : Expr} {ta tb : TE} {pos : Pos}
end
theorem Its.take {H : Hp} {vs : List V} {rss : List (List Int)} (h : Its H vs rss) (n : Nat) : Its H (vs.take n) (rss.take n) := by
  refine ⟨by rw [List.length_take, List.length_take, h.1], fun i v e => ?_⟩
  rw [List.getElem?_take] at e
  split at e
  · rename_i hi
    obtain ⟨r, e1, e2⟩ := h.2 i v e
    exact ⟨r, by rw [List.getElem?_take, if_pos hi]; exact e1, e2⟩
  · cases e
theorem Its.app {H : Hp} {vs ws : List V} {rss qss : List (List Int)} (h : Its H vs rss) (g : Its H ws qss) : Its H (vs ++ ws) (rss ++ qss) := by
  refine ⟨by rw [List.length_append, List.length_append, h.1, g.1], fun i v e => ?_⟩
  rcases Nat.lt_or_ge i vs.length with hi | hi
  · rw [List.getElem?_append_left hi] at e
    rw [List.getElem?_append_left (by rw [← h.1]; exact hi)]
    exact h.2 i v e
  · rw [List.getElem?_append_right hi] at e
    rw [List.getElem?_append_right (by rw [← h.1]; exact hi), ← h.1]
    exact g.2 _ v e
theorem cut_one {xs : List V} {n : Nat} (h : n ≤ xs.length) : cutV xs (some (n : Int)) (some ((n : Int) + 1)) = (xs.drop n).take 1 := by
  unfold cutV
  rw [show ((n : Int) + 1) = ((n + 1 : Nat) : Int) by omega, HT.sIx_nat, HT.sIx_nat, Nat.min_eq_left h]
  rcases Nat.lt_or_ge n xs.length with q | q
  · rw [Nat.min_eq_left (by omega), Nat.add_sub_cancel_left]
  · rw [List.drop_eq_nil_of_le q, List.take_nil, List.take_nil]
end L2
set_option Elab.async false
set_option linter.all false
set_option maxRecDepth 100000
set_option maxHeartbeats 2000000
namespace L2
open PySem PySem.Spec PyProof.Rows PySem.Builtin PySem.Builtin.Str PySem.StrLaws
theorem vals_strs : ∀ {ys : List Str} {us : List Value}, Vals (ys.map V.str) us → ∃ l : List (Str × Tok), us = strValues l ∧ l.map (·.1) = ys
  | [], us, h => by cases h; exact ⟨[], rfl, rfl⟩
  | y :: ys, us, h => by
    cases h with
    | cons r q =>
      obtain ⟨t, rfl⟩ := r
      obtain ⟨l, rfl, e⟩ := vals_strs q
      exact ⟨(y, t) :: l, rfl, by rw [List.map_cons, e]⟩
def rJoin (K : PySem.W.Frag) : V → List V → Hp → VK → Prop := fun x vs H Q => ∃ (sep : Str) (p : Addr) (ys : List Str) (B : Nat), x = .str sep ∧ vs = [.ref p] ∧ SqL K H p (ys.map V.str) ∧ (∀ y ∈ ys, y.length ≤ B) ∧ ys.length * B + ys.length * sep.length ≤ 16777216 ∧ (Str.join sep ys).length ≤ sizeLine ∧ Q (.str (Str.join sep ys)) H
section
variable {X : Cx}
theorem mt_join (K : PySem.W.Frag) (hK : X.K = K := by rfl) : MtR X "str.join" (rJoin K) := by
  subst hK
  intro pins s σ H x vs v us Q I rx rv h
  obtain ⟨sep, p, ys, B, rfl, rfl, hs, hB, hf, hz, q⟩ := h
  obtain ⟨t, rfl⟩ := rx
  obtain ⟨u, rfl, ru⟩ := rv.one
  cases ru
  obtain ⟨its, ri, sq, _⟩ := I.list hs
  obtain ⟨l, rfl, hl⟩ := vals_strs ri
  have ht : tooLong ((l.map (·.1)).toArray.foldl (· + ·.length + sep.length) 0) = false := by
    rw [hl]
    exact joinFits hB hf
  refine call_meets PySem.F.slot_str_join (typeIs_str _ _ _) PySem.F.entry_str_join (PySem.F.args_str_join_2 _ _) (meets_str_join_list sep t p l ht) ⟨sq.isList, ?_⟩
  match l, hl with
  | [z], hl =>
    have e : Str.join sep ys = z.1 := by rw [← hl]; exact (glued_eq_join sep [z.1]).symm
    rw [e] at q
    exact ⟨.str z.1, H, I, ⟨_, rfl⟩, q⟩
  | [], hl =>
    refine ⟨?_, .str (Str.join sep ys), H, I.tok _, ⟨s.toks, ?_⟩, q⟩
    · show (glued sep []).length ≤ _
      rw [glued_eq_join, show ([] : List Str) = ys from hl]
      exact hz
    · show Value.str (glued sep []) _ = _
      rw [glued_eq_join, show ([] : List Str) = ys from hl]
  | z :: z2 :: l, hl =>
    refine ⟨?_, .str (Str.join sep ys), H, I.tok _, ⟨s.toks, ?_⟩, q⟩
    · show (glued sep ((z :: z2 :: l).map (·.1))).length ≤ _
      rw [glued_eq_join, hl]
      exact hz
    · show Value.str (glued sep ((z :: z2 :: l).map (·.1))) _ = _
      rw [glued_eq_join, hl]
end
end L2
set_option Elab.async false
set_option linter.all false
set_option maxRecDepth 100000
set_option maxHeartbeats 2000000
namespace L2
open PySem PySem.Spec PyProof.Rows PySem.Builtin PySem.Builtin.Str PySem.StrLaws
theorem strs_vals : ∀ (ys : List Str) (tk : Nat), Vals (ys.map V.str) (strsFrom tk ys)
  | [], _ => .nil
  | y :: ys, tk => .cons ⟨tk, rfl⟩ (strs_vals ys (tk + 1))
def rSplit : V → List V → Hp → VK → Prop := fun x vs H Q => ∃ (a b : Str), x = .str a ∧ vs = [.str b] ∧ 1 ≤ b.length ∧ a.length + 2 ≤ sizeLine ∧ ∀ p, H p = none → Q (.ref p) (upd H p (.lst ((Txt.split a b).map V.str)))
section
variable {X : Cx}
theorem mt_split : MtR X "str.split" rSplit := by
  intro pins s σ H x vs v us Q I rx rv h
  obtain ⟨a, b, rfl, rfl, hb, ha, q⟩ := h
  obtain ⟨t, rfl⟩ := rx
  obtain ⟨u, rfl, ru⟩ := rv.one
  obtain ⟨t2, rfl⟩ := ru
  have hlen := split_le a b
  have one : Txt.split a b = [a] → EP X pins σ Q (.ref s.heap.objs.size) { s with heap := s.heap.push { cls := .type "list", data := .seq [Value.str a t].toArray } } := fun e => by
    rw [e] at q
    exact ⟨.ref s.heap.objs.size, _, I.laid (t' := s.toks) (o := .lst [.str a]) (fun b ob q => Heap.get?_push_of_some _ q) (Nat.le_refl _) ⟨by show 1 ≤ sizeLine; omega, _, 0, .cons ⟨t, rfl⟩ .nil, Heap.get?_push_size _ rfl⟩, rfl, q _ (I.hok.fresh (Nat.le_refl _))⟩
  by_cases h1 : (decide (a.length < b.length) || decide (strKind a < strKind b)) = true
  · refine call_meets PySem.F.slot_str_split (typeIs_str _ _ _) PySem.F.entry_str_split (PySem.F.args_str_split_2 _ _) (meets_str_split_cannot_occur a b t t2 h1) (one ?_)
    unfold Txt.split
    rw [if_pos h1]
  · have h1' : (decide (a.length < b.length) || decide (strKind a < strKind b)) = false := by simpa using h1
    have hy : (b.length == 0) = false := by
      rw [beq_eq_false_iff_ne]
      omega
    by_cases hf : (occurrences a b 0 a.length (a.length + 1)).isEmpty = true
    · refine call_meets PySem.F.slot_str_split (typeIs_str _ _ _) PySem.F.entry_str_split (PySem.F.args_str_split_2 _ _) (meets_str_split_not_found a b t t2 h1' hy hf) (one ?_)
      unfold Txt.split
      rw [if_neg h1, if_pos hf]
    · have hf' : (occurrences a b 0 a.length (a.length + 1)).isEmpty = false := by simpa using hf
      have e : Txt.split a b = partsBetween a (occurrences a b 0 a.length (a.length + 1)) b.length := by
        unfold Txt.split
        rw [if_neg h1, if_neg hf]
      rw [e] at q hlen
      refine call_meets PySem.F.slot_str_split (typeIs_str _ _ _) PySem.F.entry_str_split (PySem.F.args_str_split_2 _ _) (meets_str_split_sep a b t t2 h1' hy hf' (by omega) (by omega)) ?_
      exact ⟨.ref s.heap.objs.size, _, I.laid (t' := s.toks + _) (o := .lst ((partsBetween a (occurrences a b 0 a.length (a.length + 1)) b.length).map V.str)) (fun b ob q => Heap.get?_push_of_some _ q) (Nat.le_refl _) ⟨by rw [List.length_map]; omega, _, 0, strs_vals _ _, Heap.get?_push_size _ rfl⟩, rfl, q _ (I.hok.fresh (Nat.le_refl _))⟩
end
theorem cut_at {α : Type} {c : α} : ∀ {a b u v : List α}, c ∉ a → c ∉ b → a ++ c :: u = b ++ c :: v → a = b ∧ u = v
  | [], [], _, _, _, _, h => by injection h with _ h; exact ⟨rfl, h⟩
  | [], y :: b, _, _, _, hb, h => by
    injection h with h1 _
    exact absurd (by rw [h1]; exact List.mem_cons_self) hb
  | x :: a, [], _, _, ha, _, h => by
    injection h with h1 _
    exact absurd (by rw [← h1]; exact List.mem_cons_self) ha
  | x :: a, y :: b, u, v, ha, hb, h => by
    injection h with h1 h2
    obtain ⟨e1, e2⟩ := cut_at (fun z => ha (List.mem_cons_of_mem _ z)) (fun z => hb (List.mem_cons_of_mem _ z)) h2
    exact ⟨by rw [h1, e1], e2⟩
theorem join_two (c : Nat) (x y : Str) (r : List Str) : (Str.join ⟨#[c]⟩ (x :: y :: r)).cps.toList = x.cps.toList ++ c :: (Str.join ⟨#[c]⟩ (y :: r)).cps.toList := by
  show (x ++ ⟨#[c]⟩ ++ Str.join ⟨#[c]⟩ (y :: r)).cps.toList = _
  rw [Str.cps_append, Str.cps_append, Array.toList_append, Array.toList_append, List.append_assoc]
  rfl
theorem join_one {c : Nat} : ∀ {ps qs : List Str}, ps ≠ [] → qs ≠ [] → (∀ a ∈ ps, c ∉ a.cps.toList) → (∀ a ∈ qs, c ∉ a.cps.toList) → Str.join ⟨#[c]⟩ ps = Str.join ⟨#[c]⟩ qs → ps = qs
  | [], _, h, _, _, _, _ => absurd rfl h
  | _, [], _, h, _, _, _ => absurd rfl h
  | [p], [q], _, _, _, _, h => by rw [show p = q from h]
  | [p], q :: q2 :: r, _, _, hp, _, h => by
    have := congrArg (fun x : Str => x.cps.toList) h
    rw [join_two] at this
    exact absurd (by rw [show p.cps.toList = _ from this]; exact List.mem_append_right _ List.mem_cons_self) (hp p List.mem_cons_self)
  | p :: p2 :: r, [q], _, _, _, hq, h => by
    have := congrArg (fun x : Str => x.cps.toList) h
    rw [join_two] at this
    exact absurd (by rw [show q.cps.toList = _ from this.symm]; exact List.mem_append_right _ List.mem_cons_self) (hq q List.mem_cons_self)
  | p :: p2 :: r, q :: q2 :: s, _, _, hp, hq, h => by
    have := congrArg (fun x : Str => x.cps.toList) h
    rw [join_two, join_two] at this
    obtain ⟨e1, e2⟩ := cut_at (hp p List.mem_cons_self) (hq q List.mem_cons_self) this
    have e3 : Str.join ⟨#[c]⟩ (p2 :: r) = Str.join ⟨#[c]⟩ (q2 :: s) := Str.ext' (Array.toList_inj.mp e2)
    rw [Str.ext' (Array.toList_inj.mp e1), join_one (by simp) (by simp) (fun a ha => hp a (List.mem_cons_of_mem _ ha)) (fun a ha => hq a (List.mem_cons_of_mem _ ha)) e3]
theorem split_join {c : Nat} {ps : List Str} (h0 : ps ≠ []) (h : ∀ a ∈ ps, c ∉ a.cps.toList) : Txt.split (Str.join ⟨#[c]⟩ ps) ⟨#[c]⟩ = ps := by
  refine join_one (c := c) (fun z => ?_) h0 (fun a ha => ?_) h (join_split _ _)
  · have := split_pos (Str.join ⟨#[c]⟩ ps) ⟨#[c]⟩
    rw [z] at this
    simp at this
  · exact split_free _ c a ha
end L2
set_option Elab.async false
set_option linter.all false
set_option maxRecDepth 100000
set_option maxHeartbeats 2000000
namespace L2
open PySem PySem.Spec PyProof.Rows PySem.NumText
def figs (n : Nat) : Str := Str.ofString (toString ((n : Nat) : Int))
theorem figs_cps (n : Nat) : (figs n).cps.toList = (Nat.toDigits 10 n).map Char.toNat := PySem.W.KIN.signs_num n
theorem figs_all (n : Nat) : AllDigits (figs n).cps.toList := fun c hc => by
  rw [figs_cps] at hc
  obtain ⟨ch, hch, e⟩ := List.mem_map.mp hc
  have r := digit_range (Nat.isDigit_of_mem_toDigits (by decide) (by decide) hch)
  rw [← e]
  exact r
theorem figs_len {n k : Nat} (hk : 0 < k) : (figs n).length ≤ k ↔ n < 10 ^ k := by
  rw [← Nat.length_toDigits_le_iff (b := 10) (by decide) hk, show (figs n).length = (figs n).cps.toList.length by rw [Array.length_toList]; rfl, figs_cps, List.length_map]
theorem figs_ne (n : Nat) : (figs n).cps.toList ≠ [] := by
  rw [figs_cps]
  intro e
  have h := Nat.length_toDigits_pos (b := 10) (n := n)
  rw [List.map_eq_nil_iff.mp e] at h
  exact absurd h (by decide)
theorem figs_reads {n : Nat} (h : (figs n).length ≤ 4300) : PySem.intText? (figs n) = some (n : Int) := by
  have e := intText_digits (figs_all n) (figs_ne n) h
  rw [figs_cps, PySem.W.KIN.val_back] at e
  exact e
theorem figs_head : ∀ n : Nat, 0 < n → (figs n).cps.toList.head? ≠ some 48 := by
  have key : ∀ n : Nat, 0 < n → ∃ d, 0 < d ∧ d < 10 ∧ (Nat.toDigits 10 n).head? = some (Nat.digitChar d) := by
    intro n
    induction n using Nat.strongRecOn with
    | _ n ih =>
      intro hn
      by_cases h : n < 10
      · exact ⟨n, hn, h, by rw [Nat.toDigits_of_lt_base h]; rfl⟩
      · obtain ⟨d, d0, d1, e⟩ := ih (n / 10) (by omega) (by omega)
        refine ⟨d, d0, d1, ?_⟩
        have t := Nat.toDigits_append_toDigits (b := 10) (n := n / 10) (d := n % 10) (by decide) (by omega) (Nat.mod_lt _ (by decide))
        rw [Nat.div_add_mod] at t
        rw [← t, List.head?_append, e]
        rfl
  intro n hn
  obtain ⟨d, d0, d1, e⟩ := key n hn
  rw [figs_cps, List.head?_map, e]
  have : ∀ d : Nat, d < 10 → 0 < d → some ((Nat.digitChar d).toNat) ≠ some 48 := by decide
  exact this d d1 d0
theorem figs_zero : figs 0 = Str.ofString "0" := rfl
def rIntT : RL := fun xs H Q => ∃ (x : Str) (n : Int), xs = [.str x] ∧ x.length ≤ 640 ∧ PySem.intText? x = some n ∧ Q (.int n) H
def rStrI : RL := fun xs H Q => ∃ (n : Nat), xs = [.int n] ∧ n < 10 ^ 570 ∧ Q (.str (figs n)) H
section
variable {X : Cx} {e : Expr} {t : TA} {p pos : Pos}
theorem call_intT : CallR X (.type "int") rIntT := by
  intro pins s σ H xs us Q I r h
  obtain ⟨x, n, rfl, hl, hn, q⟩ := h
  obtain ⟨u, rfl, t, rfl⟩ := r.one
  exact PySem.W.KIN.call_text hn hl ⟨.int n, H, I.tok _, ⟨_, rfl⟩, q⟩
theorem call_strI : CallR X (.type "str") rStrI := by
  intro pins s σ H xs us Q I r h
  obtain ⟨n, rfl, hl, q⟩ := h
  refine call_str_int pins s σ H _ us Q I r ⟨n, rfl, ?_, q⟩
  have h1 : n < 2 ^ 1900 := Nat.lt_trans hl (by decide +kernel)
  by_cases h0 : n = 0
  · subst h0
    decide
  · exact (Nat.log2_lt (show (n : Int).natAbs ≠ 0 by omega)).mpr (by rw [Int.natAbs_natCast]; exact Nat.lt_trans h1 (by decide +kernel))
theorem jc_intT (hg : Gl X "int") (hm : X.mg "int" = none) (ha : JA X [e] t) (he : starEach [e] X.env = (false, eval e X.env) :: starEach [] X.env := by rfl) (hpl : (backTo pos (starEach [] X.env)).any (·.1) = false := by rfl) : JE X (.Call (.Name "int" p) [e] [] pos) (tCB rIntT t) := ⟨pe_callTy call_intT hg hm bb_int ha.h (by decide) (by decide) he hpl⟩
theorem jc_strI (hg : Gl X "str") (hm : X.mg "str" = none) (ha : JA X [e] t) (he : starEach [e] X.env = (false, eval e X.env) :: starEach [] X.env := by rfl) (hpl : (backTo pos (starEach [] X.env)).any (·.1) = false := by rfl) : JE X (.Call (.Name "str" p) [e] [] pos) (tCB rStrI t) := ⟨pe_callTy call_strI hg hm bb_str ha.h (by decide) (by decide) he hpl⟩
end
section
variable {X : Cx} {o e : Expr} {es : List Expr} {to : TE} {t : TA} {apos cpos : Pos}
theorem jm_join (K : PySem.W.Frag) (ho : JE X o to) (ha : JA X (e :: es) t) (hK : X.K = K := by rfl) (hbase : attributeBase o "join" X.env (eval o X.env) = eval o X.env := by rfl)
    (hfew : ((backTo cpos (starEach (e :: es) X.env)).all (fun x => !x.1) && (backToKw cpos (keywordEach [] X.env)).all (fun x => x.1.isSome) && decide ((e :: es).length + ([] : List Keyword).length + (if ([] : List Keyword).isEmpty then 0 else 1) < 30)) = true := by rfl)
    (hline : (apos.endLine == cpos.line) = true := by rfl) (hs : starEach (e :: es) X.env = (false, eval e X.env) :: starEach es X.env := by rfl) (hplain : (backTo cpos (starEach es X.env)).any (·.1) = false := by rfl) :
    JE X (.Call (.Attribute o "join" apos) (e :: es) [] cpos) (tBM K "str" (rJoin K) to t) := ⟨pe_bmK K PySem.F.plainAttrs_str PySem.F.slot_str_join PySem.F.type_str_join (mt_join K hK) ho.h ha.h hK hbase hfew hline hs hplain⟩
theorem jm_split (K : PySem.W.Frag) (ho : JE X o to) (ha : JA X (e :: es) t) (hK : X.K = K := by rfl) (hbase : attributeBase o "split" X.env (eval o X.env) = eval o X.env := by rfl)
    (hfew : ((backTo cpos (starEach (e :: es) X.env)).all (fun x => !x.1) && (backToKw cpos (keywordEach [] X.env)).all (fun x => x.1.isSome) && decide ((e :: es).length + ([] : List Keyword).length + (if ([] : List Keyword).isEmpty then 0 else 1) < 30)) = true := by rfl)
    (hline : (apos.endLine == cpos.line) = true := by rfl) (hs : starEach (e :: es) X.env = (false, eval e X.env) :: starEach es X.env := by rfl) (hplain : (backTo cpos (starEach es X.env)).any (·.1) = false := by rfl) :
    JE X (.Call (.Attribute o "split" apos) (e :: es) [] cpos) (tBM K "str" rSplit to t) := ⟨pe_bmK K PySem.F.plainAttrs_str PySem.F.slot_str_split PySem.F.type_str_split mt_split ho.h ha.h hK hbase hfew hline hs hplain⟩
end
end L2
set_option Elab.async false
set_option linter.all false
set_option maxRecDepth 100000
set_option maxHeartbeats 2000000
namespace L2
open PySem PySem.Spec PyProof.Rows
def Itc (x : Str) : It := ⟨fun i _ => i < x.cps.size, fun i H v H' => H' = H ∧ ∃ c, x.cps[i]? = some c ∧ v = .str ⟨#[c]⟩, fun i _ => x.cps.size ≤ i⟩
theorem turn_sign {P : Program} {w : World} {K : PySem.W.Frag} {tg : Expr} (it : Addr) (x : Str) (t : Tok) : Turn P w K tg (Itc x) [it] it (fun i h => h.IsStrIter it "str_ascii_iterator" x t i) where
  mem := by simp
  obj := fun i h st b hb => by
    have e : b = it := by simpa using hb
    subst e
    obtain ⟨o, e, c, d⟩ := st
    exact ⟨o, e, fun v z => by rw [d] at z; cases z⟩
  keep := fun i h h' st k => let ⟨o, ho, r⟩ := st; ⟨o, k it (by simp) o ho, r⟩
  item := by
    intro X hP hw hK hc i pins s σ H E I hf st hg
    subst hP hw hK
    obtain ⟨f0, f1, f2, f3, f4, f5⟩ := hf it (by simp)
    have hg : i < x.cps.size := hg
    refine wpAny_pyNext_ascii_item st (c := x.cps[i]) (by simp [hg]) fun h' st' sb => ?_
    have I1 : Inv X pins σ H { s with heap := h', toks := s.toks + 1 } := I.turned (t' := s.toks + 1) (fun b o hb e => sb.extBut b o hb e) f0 f1 f3 f4 f5
    obtain ⟨o, e, c, d⟩ := id st'
    exact ⟨_, rfl, go_of (s := { s with heap := h', toks := s.toks + 1 }) e c d (by decide) ⟨.str ⟨#[x.cps[i]]⟩, H, I1, ⟨_, rfl⟩, ⟨rfl, _, by simp [hg], rfl⟩, st', fun b hb => (hf b hb).1⟩⟩
  done := by
    intro X hP hw hK hc i pins s σ H E I hf st hg
    subst hP hw hK
    obtain ⟨f0, f1, f2, f3, f4, f5⟩ := hf it (by simp)
    have hg : x.cps.size ≤ i := hg
    exact wpAny_pyNext_ascii_end (I.ok.hd hc) st (by simp [hg]) fun h' eb => ⟨rfl, I.turned (t' := s.toks) (fun b o hb e => eb b o hb e) f0 f1 f3 f4 f5⟩
  self := fun _ _ _ _ _ st h => wpAny_pyIter_striter_ascii st h
def iSign (tl : TE) : TI := fun σ H R => tl σ H fun v H1 => ∃ x : Str, v = .str x ∧ x.cps.all (· < 128) = true ∧ R (Itc x) H1
section
variable {X : Cx} {tg : Expr}
theorem pi_sign {l : Expr} {tl : TE} (hl : PE X l tl) : PI X tg l (iSign tl) := by
  intro pins s σ H R I h
  refine thn (hl pins s σ H _ I h) fun v s1 ⟨x, H1, I1, r1, q1⟩ => ?_
  obtain ⟨x, rfl, ha, q⟩ := q1
  obtain ⟨t, rfl⟩ := r1
  refine wpAny_pyIter_ascii ha ?_
  refine ⟨s1.heap.objs.size, [s1.heap.objs.size], _, _, H1, rfl, I1.kept (t' := s1.toks) fun b o e => Heap.get?_push_of_some _ e, turn_sign _ x t, ⟨_, Heap.get?_push_size _ rfl, rfl, rfl⟩, fun b hb => ?_, q⟩
  have e : b = s1.heap.objs.size := by simpa using hb
  subst e
  exact I1.fpOk (Nat.le_refl _) (I1.hok.fresh (Nat.le_refl _))
theorem ji_sign {l : Expr} {tl : TE} (hl : JE X l tl) : JI X tg l (iSign tl) := ⟨pi_sign hl.h⟩
end
theorem comp_sign {src : List (Option Nat)} {g : TG} {tt : TT} {te : TE} {σ : St} {Q : VK} {x : Str} {H1 : Hp} (hn : x.cps.size ≤ sizeLine) (Pv : Nat → List V → Hp → Prop) (h0 : Pv 0 [] H1)
    (hl : ∀ i ys H, Pv i ys H → ys.length ≤ i)
    (hs : ∀ i c ys H, x.cps[i]? = some c → Pv i ys H → g (.str ⟨#[c]⟩) (blkSt src σ) H fun σ2 H2 => Sub (blkSt src σ) σ2 ∧ tt σ2 H2 fun b H3 => if b = true then te σ2 H3 fun v H4 => Pv (i + 1) (ys ++ [v]) H4 else Pv (i + 1) ys H3)
    (hd : ∀ ys H, Pv x.cps.size ys H → ∀ p, H p = none → Q (.ref p) (upd H p (.lst ys))) : CompW src g tt te σ Q (Itc x) H1 :=
  comp_by x.cps.size Pv h0 (fun i ys H hi p => ⟨hi, by have := hl i ys H p; omega, fun v H' y => by obtain ⟨rfl, c, hc, rfl⟩ := y; exact hs i c ys _ hc p⟩)
    fun ys H p => ⟨Nat.le_refl _, Nat.le_trans (hl _ ys H p) hn, hd ys H p⟩
end L2
set_option Elab.async false
set_option linter.all false
set_option maxRecDepth 100000
set_option maxHeartbeats 2000000
namespace L2
open PySem PySem.Spec PyProof.Rows
section
variable {prog : Program} {w : World} {A : Around} {E : Value → Shared → Prop} {s : Shared}
theorem object_init_kw {T newId : String} {me : Value} {rest : List Value} {kw : List (Str × Value)} (hl : typeLookup (.type T) "__init__" = pure (some (.builtin "object.__init__")))
    (hm : Bind.madeBy (.type T) = pure (some newId)) (hne : (some newId != some "object.__new__") = true) :
    Meets (Builtin.«object.__init__» ⟨me :: rest, kw⟩) (fun _ R s => s.TypeIs me T ∧ R (.ok (.ret .none)) s) := by
  refine Meets.of_wp fun prog w A R s ⟨hT, hq⟩ => ?_
  cases rest with
  | nil =>
    cases kw with
    | nil => exact wpAny_pure ⟨_, rfl, hq⟩
    | cons y kw =>
      repeat (any_goals (first | assumption | wp_step))
      exact ⟨_, rfl, hq⟩
  | cons y rest =>
    repeat (any_goals (first | assumption | wp_step))
    exact ⟨_, rfl, hq⟩
theorem callType_kw {T newId : String} {Bn : Builtin} {args : List Value} {kw : List (Str × Value)} {S : PySem.Spec} {Q : Value → Shared → Prop} (ft : TypeCalled T newId "object.__init__")
    (hne : (some newId != some "object.__new__") = true) (hct : checkTypeCall T ⟨args, kw⟩ = pure ()) (hcn : checkBuiltinCall newId ⟨.type T :: args, kw⟩ = pure ())
    (hok : ∀ obj, argsOk "object.__init__" ⟨obj :: args, kw⟩) (en : entryFor table newId = some Bn) (g : Meets (Bn ⟨.type T :: args, kw⟩) S)
    (h : S A.in1 (wants (fun obj s₁ => s₁.TypeIs obj T ∧ Q obj s₁) E) s) : wpAny (model prog w) A (call (.type T) args kw) Q E s := by
  obtain ⟨m0, ml, hmro⟩ := ft.mro
  have a1 := ft.made
  have a2 := ft.sub
  refine wpAny_call (codeAny_of_tree ?_)
  show wpAny _ _ (callAny (.type T) _) _ _ _
  refine wpAny_pure ⟨Code.quiet_builtin _ (by decide +kernel), codeAny_builtin F.entry_type_call ?_⟩
  rw [Around.under_plain (weight_type_call_type T args kw) (units_type_call_type T args kw)]
  have a3 := ft.notType
  have a4 := ft.canCreate
  repeat (any_goals (first | assumption | wp_step))
  refine codeAny_mono (codeAny_call_builtin ft.plain en (wpAny_of_eq hcn (g prog w A.in1 _ s h))) fun r s₁ hr => ?_
  rcases r with x | fl
  · exact hr
  cases fl with
  | ret obj =>
    obtain ⟨hT, hq⟩ := hr
    have a5 := ft.init.lookup
    have a6 := ft.init.bind obj
    repeat (any_goals (first | assumption | wp_step))
    refine codeAny_mono (codeAny_call_builtin ft.init.plain F.entry_object_init (ft.init.check _ _ _ _ _ _ _ _ hT (hok obj) ((object_init_kw ft.init.lookup ft.made hne) prog w A.in1 (wants (fun r s₂ => r = .none ∧ Q obj s₂) E) s₁ ⟨hT, rfl, hq⟩))) fun r₂ s₂ hr₂ => ?_
    rcases r₂ with x | fl₂
    · exact hr₂
    cases fl₂ with
    | ret r =>
      obtain ⟨rfl, hq⟩ := hr₂
      repeat (any_goals (first | assumption | wp_step))
    | _ => exact hr₂.elim
  | _ => exact hr.elim
theorem enum_newS {k : Bool} (l : Addr) (xs : Array Value) (t : Tok) :
    Meets (Builtin.«enumerate.__new__» ⟨[.type "enumerate", .ref l], [(Str.ofString "start", .int 1 t)]⟩) (fun _ R s => SqAt k s.heap l xs ∧
      R (.ok (.ret (.ref (s.heap.push (itObj k l)).objs.size))) { s with heap := (s.heap.push (itObj k l)).push { cls := .type "enumerate", data := .fields #[.none, .bool false, .ref s.heap.objs.size, rawInt 1, .none, .none] } }) :=
  .of_wp fun prog w A R s h => by
    obtain ⟨hp, g, d, tk, os⟩ := s; obtain ⟨hl1, h⟩ := h
    have hsub := sub_enumerate
    have hL1 : SqAt k (Shared.heap ⟨hp, g, d, tk, os⟩) l xs := hl1
    wp_walk using src_iter hL1
    intro Γ p hg
    change wpAny _ _ (pure (_ : Bool)) _ _ _
    refine wpAny_pure ?_
    refine wp_ite ?_ ?_
    · wp_walk using src_iter hL1
      exact ⟨_, rfl, h⟩
    · wp_walk using src_iter hL1
      exact ⟨_, rfl, h⟩
theorem enum_itemZ {k : Bool} {e it l : Addr} {i : Nat} {z : Int} {items : Array Value} {x old : Value} {Q : Value → Shared → Prop} (he : IsEnum s.heap e it z old) (hit : ItAt k s.heap it l i) (hl : SqAt k s.heap l items) (hx : items[i]? = some x) (ne : e ≠ it)
    (hQ : ∀ (h' : Heap) (t : Tok) (tk : Nat), IsEnumOut h' e it (z + 1) x s.heap.objs.size → ItAt k h' it l (i + 1) → h'.get? s.heap.objs.size = some { cls := .type "tuple", data := .seq #[.int z t, x] } → h'.objs.size = s.heap.objs.size + 1 →
      (∀ b o, b ≠ e → b ≠ it → s.heap.get? b = some o → h'.get? b = some o) → Q (.ref s.heap.objs.size) { s with heap := h', toks := tk }) :
    wpAny (model prog w) A (Builtin.«enumerate.__next__» ⟨[.ref e], []⟩) (fun fin s' => ∃ v, fin = .done (.ret v) ∧ Q v s') E s := by
  show wpAny _ _ (field (.ref e) 2 >>= _) _ _ _
  refine wpAny_bind (wpAny_field he rfl (x := .ref it) rfl ?_)
  refine wpAny_bind (src_item hit hl hx fun h1 it1 hs1 => ?_)
  have he1 : IsEnum h1 e it z old := hs1.extBut _ _ ne he
  show wpAny _ _ (field (.ref e) 3 >>= _) _ _ _
  refine wpAny_bind (wpAny_field he1 rfl (x := rawInt z) rfl ?_)
  show wpAny _ _ (field (.ref e) 4 >>= _) _ _ _
  refine wpAny_bind (wpAny_field he1 rfl (x := .none) rfl ?_)
  show wpAny _ _ (if (Value.none == Value.none) = true then _ else _) _ _ _
  rw [if_pos (by decide)]
  refine wpAny_bind (wpAny_mkInt ?_)
  refine wpAny_bind (wpAny_setField_rec (s := { s with heap := h1, toks := s.toks + 1 }) he1 (by simp) fun h2 he2 hs2 => ?_)
  replace he2 : IsEnum h2 e it (z + 1) old := he2
  refine wpAny_bind (wpAny_setField_rec (s := { s with heap := h2, toks := s.toks + 1 }) he2 (by simp) fun h3 he3 hs3 => ?_)
  replace he3 : IsEnum h3 e it (z + 1) old := he3
  refine wpAny_bind (wpAny_newTuple ?_)
  have hsz : h3.objs.size = s.heap.objs.size := by rw [hs3.1, hs2.1, hs1.1]
  have hlt : e < h3.objs.size := Heap.lt_size he3
  have he4 : IsEnum (h3.push { cls := .type "tuple", data := .seq #[.int z s.toks, x] }) e it (z + 1) old := Heap.get?_push_of_some _ he3
  refine wpAny_bind ?_
  unfold Builtin.SmallTypes.ownedTupleIsFree
  refine wpAny_bind (wpAny_field he4 rfl (x := .none) rfl (wpAny_pure ?_))
  show wpAny _ _ (if (Value.none == Value.none) = true then _ else _) _ _ _
  rw [if_pos (by decide)]
  refine wpAny_bind (wpAny_rule ?_)
  refine wpAny_bind (wpAny_field he4 rfl (x := old) rfl ?_)
  refine wpAny_bind (wpAny_setField_rec he4 (by simp) fun h5 he5 hs5 => ?_)
  replace he5 : IsEnum h5 e it (z + 1) x := he5
  refine wpAny_bind ?_
  unfold Builtin.SmallTypes.ownedTupleHandOut
  refine wpAny_bind (wpAny_setField_rec he5 (by simp) fun h6 he6 hs6 => ?_)
  replace he6 : IsEnumOut h6 e it (z + 1) x h3.objs.size := he6
  refine wpAny_setField_rec he6 (by simp) fun h7 he7 hs7 => ?_
  replace he7 : IsEnumOut h7 e it (z + 1) x h3.objs.size := he7
  refine wpAny_bind (wpAny_letGo ?_)
  have up : ∀ c o, c ≠ e → h3.get? c = some o → h7.get? c = some o := fun c o c1 q => hs7.extBut _ _ c1 (hs6.extBut _ _ c1 (hs5.extBut _ _ c1 (Heap.get?_push_of_some _ q)))
  have hT : h7.get? h3.objs.size = some { cls := .type "tuple", data := .seq #[.int z s.toks, x] } := hs7.extBut _ _ (Nat.ne_of_gt hlt) (hs6.extBut _ _ (Nat.ne_of_gt hlt) (hs5.extBut _ _ (Nat.ne_of_gt hlt) (Heap.get?_push_size _ rfl)))
  have hz : h7.objs.size = h3.objs.size + 1 := by rw [hs7.1, hs6.1, hs5.1, Heap.size_push]
  refine wpAny_pure ⟨_, rfl, ?_⟩
  show Q (.ref h3.objs.size) _
  rw [hsz] at hT hz he7 ⊢
  refine hQ h7 s.toks (s.toks + 1) he7 ((((it1.extBut hs2.extBut ne.symm).extBut hs3.extBut ne.symm)).at fun o q => up it o ne.symm q) hT hz fun b o b1 b2 q => up b o b1 (hs3.extBut _ _ b1 (hs2.extBut _ _ b1 (hs1.extBut _ _ b2 q)))
theorem enum_endZ {k : Bool} {e it l : Addr} {i : Nat} {z : Int} {items : Array Value} {old : Value} {Q : Fin → Shared → Prop} (hh : A.handled = none) (he : IsEnum s.heap e it z old) (hit : ItAt k s.heap it l i) (hl : SqAt k s.heap l items) (hx : items[i]? = none)
    (hE : ∀ h' x, (∀ c o, c ≠ e → c ≠ it → s.heap.get? c = some o → h'.get? c = some o) → (∃ o, h'.get? x = some o ∧ o.cls = .type "StopIteration") → E (.ref x) { s with heap := h' }) :
    wpAny (model prog w) A (Builtin.«enumerate.__next__» ⟨[.ref e], []⟩) Q E s := by
  show wpAny _ _ (field (.ref e) 2 >>= _) _ _ _
  refine wpAny_bind (wpAny_field he rfl (x := .ref it) rfl ?_)
  exact wpAny_bind (src_end hh hit hl hx fun h1 x hs1 hx1 => hE h1 x (fun c o _ c2 q => hs1 _ _ c2 q) hx1)
theorem typeCall_enumS (a v : Value) : checkTypeCall "enumerate" ⟨[a], [(Str.ofString "start", v)]⟩ = pure () := by kernel_rfl
theorem newCall_enumS (a v : Value) : checkBuiltinCall "enumerate.__new__" ⟨[.type "enumerate", a], [(Str.ofString "start", v)]⟩ = pure () := by kernel_rfl
theorem args_initS (a b v : Value) : argsOk "object.__init__" ⟨[a, b], [(Str.ofString "start", v)]⟩ := by unfold argsOk; kernel_rfl
theorem enum_callS {k : Bool} {l : Addr} {xs : Array Value} {t : Tok} {Q : Value → Shared → Prop} (hl1 : SqAt k s.heap l xs)
    (h : ∀ h', IsEnum h' (s.heap.objs.size + 1) s.heap.objs.size 1 .none → ItAt k h' s.heap.objs.size l 0 → h'.objs.size = s.heap.objs.size + 2 → (∀ c o, s.heap.get? c = some o → h'.get? c = some o) → Q (.ref (s.heap.objs.size + 1)) { s with heap := h' }) :
    wpAny (model prog w) A (call (.type "enumerate") [.ref l] [(Str.ofString "start", .int 1 t)]) Q E s := by
  refine callType_kw F.called_enumerate (by decide) (typeCall_enumS _ _) (newCall_enumS _ _) (fun obj => args_initS obj _ _) F.entry_enumerate_new (enum_newS (k := k) l xs t) ⟨hl1, ?_⟩
  have z1 : (s.heap.push (itObj k l)).objs.size = s.heap.objs.size + 1 := Heap.size_push ..
  have g2 : ((s.heap.push (itObj k l)).push { cls := .type "enumerate", data := .fields #[.none, .bool false, .ref s.heap.objs.size, rawInt 1, .none, .none] }).get? (s.heap.push (itObj k l)).objs.size = some _ := Heap.get?_push_size _ rfl
  have g1 : ((s.heap.push (itObj k l)).push { cls := .type "enumerate", data := .fields #[.none, .bool false, .ref s.heap.objs.size, rawInt 1, .none, .none] }).get? s.heap.objs.size = some (itObj k l) := Heap.get?_push_of_some _ (Heap.get?_push_size _ rfl)
  show _ ∧ _
  rw [z1] at g2
  rw [z1]
  refine ⟨⟨_, g2, rfl⟩, h _ g2 ?_ (by rw [Heap.size_push, z1]) fun c o x => Heap.get?_push_of_some _ (Heap.get?_push_of_some _ x)⟩
  cases k <;> exact ⟨_, g1, rfl, rfl⟩
end
def It1 (K : PySem.W.Frag) (k : Bool) (a : Addr) : It :=
  ⟨fun i H => ∃ xs x, SqK k K H a xs ∧ xs[i]? = some x,
   fun i H v H' => ∃ p x, v = .ref p ∧ H p = none ∧ H' = upd H p (.tup [.int (1 + i), x]) ∧ ∀ xs, SqK k K H a xs → xs[i]? = some x,
   fun i H => ∃ xs, SqK k K H a xs ∧ xs.length ≤ i⟩
structure ETurn1 (k : Bool) (e it a : Addr) (i : Nat) (h : Heap) : Prop where
  en : ∃ old, IsEnum h e it (1 + (i : Int)) old
  t1 : ItAt k h it a i
theorem turn_enum1 {P : Program} {w : World} {K : PySem.W.Frag} {es : List Expr} {kt : Nat} {tp : Pos} {k : Bool} {a e it : Addr} (ne : e ≠ it) :
    Turn P w K (.Tuple es kt tp) (It1 K k a) [e, it] e (fun i h => ETurn1 k e it a i h) where
  mem := by simp
  obj := fun i h st c hc => by
    simp only [List.mem_cons, List.not_mem_nil, or_false] at hc
    rcases hc with rfl | rfl
    · obtain ⟨old, q⟩ := st.en
      exact ⟨_, q, fun v z => by cases z⟩
    · obtain ⟨o, e, d⟩ := st.t1.get
      exact ⟨o, e, fun v z => by rw [d] at z; cases z⟩
  keep := fun i h h' st k => ⟨let ⟨old, q⟩ := st.en; ⟨old, k e (by simp) _ q⟩, st.t1.at fun o q => k it (by simp) o q⟩
  item := by
    intro X hP hw hK hc i pins s σ H E I hf st hg
    subst hP hw hK
    obtain ⟨xs, x, hx1, hx⟩ := hg
    obtain ⟨us, ru, pu, zu⟩ := I.sqk hx1
    obtain ⟨u, hu, rux⟩ := ru.get hx
    obtain ⟨old, hen⟩ := st.en
    have hT : s.TypeIs (.ref e) "enumerate" := ⟨_, hen, rfl⟩
    unfold pyNext
    refine wpAny_bind (wpAny_attempt (wpAny_callSpecial?_slot (name := Str.ofString "__next__") hT F.slot_enumerate_next
      (wpAny_call_entry F.slot_enumerate_next hT F.entry_enumerate_next
        (enum_itemZ hen st.t1 pu (x := u) (by simpa using hu) ne fun h' t tk a1 a2 a3 a4 a5 => wpAny_pure ?_) (F.args_enumerate_next_1 _))))
    refine ⟨_, rfl, ?_⟩
    refine wpAny_letOwnedTupleGo_enum (s := { s with heap := h', toks := tk }) a1 fun h2 he2 hs2 => ?_
    have nes : ∀ c ∈ [e, it], c ≠ s.heap.objs.size := fun c hc q => by
      have : ∃ o, s.heap.get? c = some o := by
        simp only [List.mem_cons, List.not_mem_nil, or_false] at hc
        rcases hc with rfl | rfl
        · exact ⟨_, hen⟩
        · obtain ⟨o, e, d⟩ := st.t1.get; exact ⟨o, e⟩
      obtain ⟨o, z⟩ := this
      exact absurd (Heap.lt_size z) (by rw [q]; exact Nat.lt_irrefl _)
    have hfree : H s.heap.objs.size = none := I.hok.fresh (Nat.le_refl _)
    have pr2 := hs2.extBut _ _ (nes e (by simp)).symm a3
    have kk : ∀ c o, c ∉ [e, it] → s.heap.get? c = some o → h2.get? c = some o := fun c o hc q => by
      simp only [List.mem_cons, List.not_mem_nil, or_false, not_or] at hc
      exact hs2.extBut _ _ hc.1 (a5 c o hc.1 hc.2 q)
    have I2 : Inv X pins σ (upd H s.heap.objs.size (.tup [.int (1 + i), x])) { s with heap := h2 } :=
      I.turnedT (ch := [e, it]) hf rfl kk ⟨by show 2 ≤ sizeLine; decide, [.int (1 + i) t, u], .cons ⟨t, rfl⟩ (.cons rux .nil), ⟨_, pr2, rfl, 0, rfl⟩⟩
    have I3 := I2.tok tk
    refine ⟨.ref s.heap.objs.size, _, I3, rfl, ⟨_, x, rfl, hfree, rfl, fun zs hz => ?_⟩, ⟨⟨_, (show (1 : Int) + ((i + 1 : Nat) : Int) = 1 + i + 1 by omega) ▸ he2⟩, a2.extBut hs2.extBut ne.symm⟩, fun c hc => ?_⟩
    · rw [I.sqk_inj hz hx1]; exact hx
    · rw [upd_ne (nes c hc)]; exact (hf c hc).1
  done := by
    intro X hP hw hK hc i pins s σ H E I hf st hg
    subst hP hw hK
    obtain ⟨xs, hx1, hend⟩ := hg
    obtain ⟨us, ru, pu, zu⟩ := I.sqk hx1
    have l1 := ru.length
    obtain ⟨old, hen⟩ := st.en
    have hT : s.TypeIs (.ref e) "enumerate" := ⟨_, hen, rfl⟩
    unfold pyNext
    refine wpAny_bind (wpAny_attempt (wpAny_callSpecial?_slot (name := Str.ofString "__next__") hT F.slot_enumerate_next
      (wpAny_call_entry F.slot_enumerate_next hT F.entry_enumerate_next (enum_endZ (I.ok.hd hc) hen st.t1 pu (by simp; omega) fun h' x hk hx => ?_) (F.args_enumerate_next_1 _))))
    obtain ⟨o, ho, hc⟩ := hx
    refine wpAny_bind (wpAny_isInstance (T := "StopIteration") (b := true) ⟨o, ho, hc⟩ isSubtype_stop ?_)
    refine wpAny_pure ⟨rfl, I.turnedL (ch := [e, it]) hf fun c o hc q => ?_⟩
    simp only [List.mem_cons, List.not_mem_nil, or_false, not_or] at hc
    exact hk c o hc.1 hc.2 q
  self := fun A i s Q E st h => let ⟨_, q⟩ := st.en; wpAny_pyIter_enum q h
def iEnum1 (K : PySem.W.Frag) (ta : TA) : TI := fun σ H R => ta σ H fun vs H1 => ∃ k a, vs = [.ref a] ∧ (∃ xs, SqK k K H1 a xs) ∧ R (It1 K k a) H1
section
variable {M : Model} {A : Around} {E : Value → Shared → Prop} {s : Shared} {env : Env}
theorem callWith_typeK {pos : Pos} {T : String} {e : Expr} {rest : List Expr} {kws : List Keyword} {Q : Value → Shared → Prop}
    (h : wpAny M A (spliced (backTo pos (starEach (e :: rest) env))) (fun vs s₁ => wpAny M A (evalAll ((backToKw pos (keywordEach kws env)).map (·.2))) (fun kvs s₂ => wpAny M A (call (.type T) vs (((backToKw pos (keywordEach kws env)).filterMap (·.1)).zip kvs)) Q E s₂) E s₁) E s)
    (he : backTo pos (starEach (e :: rest) env) = (false, eval e env) :: backTo pos (starEach rest env) := by rfl)
    (hp : (backTo pos (starEach (e :: rest) env)).any (·.1) = false := by rfl) (ha : (backToKw pos (keywordEach kws env)).all (·.1.isSome) = true := by rfl) (hk : (backToKw pos (keywordEach kws env)).any (·.1.isNone) = false := by rfl) :
    wpAny M A (callWith pos (.type T) [] (backTo pos (starEach (e :: rest) env)) (backToKw pos (keywordEach kws env))) Q E s := by
  have h2 : wpAny M A (evalArgs (.type T) true (backTo pos (starEach (e :: rest) env)) (backToKw pos (keywordEach kws env))) (fun a s₁ => wpAny M A (call (.type T) ([] ++ a.pos) a.kw) Q E s₁) E s := by
    rw [he] at h ⊢
    exact evalArgs_kwB ha h
  unfold callWith
  refine wpAny_bind (wpAny_holding (wpAny_mono h2 (fun a s₁ h₁ => wpAny_bind (wpAny_standAt ?_)) fun _ _ x => x))
  simp only [hp, hk, Bool.or_false]
  refine wpAny_bind (wpAny_pure ?_)
  exact wpAny_bind (wpAny_mono h₁ (fun r s₂ hr => wpAny_bind (wpAny_holding (wpAny_point (wpAny_pure hr)))) fun _ _ x => x)
end
section
variable {X : Cx}
theorem ji_enum1 (K : PySem.W.Frag) {es : List Expr} {kt : Nat} {tp : Pos} {a : Expr} {ta : TA} {p pos kp np : Pos} {nk : Nat} (hg : Gl X "enumerate") (hm : X.mg "enumerate" = none) (ha : JA X [a] ta) (hK : X.K = K := by rfl)
    (he : backTo pos (starEach [a] X.env) = (false, eval a X.env) :: backTo pos (starEach [] X.env) := by rfl) (hpl : (backTo pos (starEach [a] X.env)).any (·.1) = false := by rfl) :
    JI X (.Tuple es kt tp) (.Call (.Name "enumerate" p) [a] [⟨some "start", .Constant (.int 1) nk np, kp⟩] pos) (iEnum1 K ta) := by
  subst hK
  refine ⟨fun pins s σ H R I h => ?_⟩
  refine wpAny_Call_Name_kw (ld_blt I hg hm bb_enumerate ?_ (by decide) (by decide))
  refine callWith_typeK (thn (ha.h pos pins s σ H _ I h) fun us s1 ⟨vs, H1, I1, r1, q1⟩ => ?_) he hpl
  refine kws_cons (wpAny_Constant_int (kws_nil ?_))
  obtain ⟨k, l1, rfl, ⟨xs, hx⟩, q⟩ := q1
  obtain ⟨u, rfl, ru⟩ := r1.one
  cases ru
  have I2 := I1.tok (s1.toks + 1)
  obtain ⟨us, ru, pu, zu⟩ := I2.sqk hx
  refine enum_callS pu fun h' z1 z2 z3 z4 => ?_
  refine wpAny_pyIter_enum (s := { s1 with heap := h', toks := s1.toks + 1 }) z1 ?_
  refine ⟨s1.heap.objs.size + 1, [s1.heap.objs.size + 1, s1.heap.objs.size], _, _, H1, rfl, I2.kept (t' := s1.toks + 1) z4, turn_enum1 (nne (by omega)), ⟨⟨_, z1⟩, z2⟩, fun c hc => ?_, q⟩
  have hle : s1.heap.objs.size ≤ c := by
    simp only [List.mem_cons, List.not_mem_nil, or_false] at hc
    rcases hc with rfl | rfl
    · exact Nat.le_add_right _ _
    · exact Nat.le_refl _
  exact I2.fpOk hle (I2.hok.fresh hle)
end
theorem for_enum1 {K : PySem.W.Frag} {k : Bool} {a : Addr} {xs : List V} {g : TG} {tb : TS} {D : Ends} {σ : St} {H : Hp} (Pv : Nat → St → Hp → Prop) (h0 : Pv 0 σ H)
    (hl : ∀ i σ H, i ≤ xs.length → Pv i σ H → SqK k K H a xs)
    (hs : ∀ i x σ H p, xs[i]? = some x → Pv i σ H → H p = none → g (.ref p) σ (upd H p (.tup [.int (1 + i), x])) fun σ2 H2 => tb { D with nx := Pv (i + 1), ct := Pv (i + 1), bk := D.nx } σ2 H2) (hd : ∀ σ H, Pv xs.length σ H → D.nx σ H) :
    ∃ W : Nat → Nat → St → Hp → Prop, (∃ m, W 0 m σ H) ∧ ∀ i m σ H, W i m σ H →
      ((It1 K k a).stop i H ∧ D.nx σ H) ∨ ((It1 K k a).go i H ∧ ∃ N : St → Hp → Prop, (∀ σ' H', N σ' H' → ∃ m', m' < m ∧ W (i + 1) m' σ' H') ∧ ∀ x H', (It1 K k a).yld i H x H' → g x σ H' fun σ2 H2 => tb { D with nx := N, ct := N, bk := D.nx } σ2 H2) := by
  refine ⟨fun i m σ H => m = xs.length - i ∧ i ≤ xs.length ∧ Pv i σ H, ⟨_, rfl, Nat.zero_le _, h0⟩, ?_⟩
  rintro i m σ H ⟨rfl, hi, p⟩
  have q1 := hl i σ H hi p
  by_cases hlt : i < xs.length
  · refine .inr ⟨⟨xs, xs[i], q1, List.getElem?_eq_getElem hlt⟩, Pv (i + 1), fun σ' H' p' => ⟨_, by omega, rfl, hlt, p'⟩, fun x H' y => ?_⟩
    obtain ⟨pp, x', e, e2, e3, y1⟩ := y
    subst e e3
    exact hs i x' σ _ pp (y1 xs q1) p e2
  · have e : i = xs.length := by omega
    subst e
    exact .inl ⟨⟨xs, q1, Nat.le_refl _⟩, hd σ H p⟩
end L2
set_option Elab.async false
set_option linter.all false
set_option maxRecDepth 100000
set_option maxHeartbeats 2000000
namespace L2
open PySem PySem.Spec PyProof.Rows
def rInS : R2 := fun x y H Q => ∃ (c : Nat) (z : Str), x = .str ⟨#[c]⟩ ∧ y = .str z ∧ Q (.bl (decide (c ∈ z.cps.toList))) H
def rLenS : RL := fun xs H Q => ∃ z : Str, xs = [.str z] ∧ z.length ≤ sizeLine ∧ Q (.int z.length) H
def CDivH (i j : Int) : Prop := 0 < j ∧ j < 10 ^ 100
section
variable {X : Cx} {a b c e o i : Expr} {ta tb tc td ty te tv : TE} {t : TA} {p pos : Pos}
theorem op_inS : OpR X (compareOp .In) rInS := by
  intro pins s σ H x y v u Q I rx ry h
  obtain ⟨c, z, rfl, rfl, q⟩ := h
  obtain ⟨t, rfl⟩ := rx
  obtain ⟨t', rfl⟩ := ry
  refine PySem.P.in_str ?_
  rw [StrLaws.found_one]
  exact ⟨.bl _, H, I, rfl, q⟩
theorem jv_inS (ha : JE X a ta) (hb : JE X b tb) (hm : behindInMarks .In b = false) : JE X (.Compare a [.In] [b] pos) (tOp rInS ta tb) := ⟨pe_cmpR op_inS ha.h hb.h hm⟩
theorem jc_lenS (hg : Gl X "len") (hm : X.mg "len" = none) (ha : JA X [e] t) (he : starEach [e] X.env = (false, eval e X.env) :: starEach [] X.env := by rfl) (hpl : (backTo pos (starEach [] X.env)).any (·.1) = false := by rfl) : JE X (.Call (.Name "len" p) [e] [] pos) (tCB rLenS t) := ⟨pe_callB call_len_str hg hm bb_len ha.h (by decide) (by decide) he hpl⟩
theorem j_ixC (ha : JE X a ta) (hb : JE X b tb) (hs : PlainIx b := by intro _ _; rfl) : JE X (.Subscript a b pos) (tOp rIxS ta tb) := ⟨pe_ix ix_str ha.h hb.h hs⟩
theorem jt_lele (ha : JE X a ta) (hb : JE X b tb) (hc : JE X c tc) (hm : lastMarks [.LtE, .LtE] [b, c] = false := by with_unfolding_all rfl) : JT X (.Compare a [.LtE, .LtE] [b, c] pos) (tTest (tChain (rI0 fun i j => .bl (decide (i ≤ j))) (rI0 fun i j => .bl (decide (i ≤ j))) ta tb tc)) := ⟨pt_chain op_le op_le ha.h hb.h hc.h hm⟩
theorem op_fdivH : OpR X (binaryOp .FloorDiv) (rI CDivH fun i j => .int (i / j)) := opI fun i j _ _ _ _ _ hc q => by
  have h1 : (0 : Int) < j := hc.1
  have h2 : j < 10 ^ 100 := hc.2
  refine floordiv_int (by omega) (by rw [Int.fdiv_eq_ediv_of_nonneg i (by omega)]; exact q) (.inl (PyProof.noPylong_of_log2 ?_))
  refine (Nat.log2_lt (by omega)).mpr ?_
  have h3 : j.natAbs < 10 ^ 100 := by omega
  exact Nat.lt_trans h3 (by decide +kernel)
theorem j_fdivH (ha : JE X a ta) (hb : JE X b tb) : JE X (.BinOp a .FloorDiv b pos) (tOp (rI CDivH fun i j => .int (i / j)) ta tb) := ⟨pe_op op_fdivH ha.h hb.h⟩
theorem j_dget (hu : X.A.units + 60 < cLine) (ho : JE X o td) (hi : JE X i ty) (hs : NoSl i := by intro _ _; rfl) : JE X (.Subscript o i pos) (tDGet td ty) := ⟨pe_dget (by omega) ho.h hi.h hs⟩
end
structure JPs (X : Cx) (pos : Pos) (keys : List (Option Expr)) (values : List Expr) (trs : List (TE × TE)) : Prop where
  h : PPs X pos keys values trs
section
variable {X : Cx} {pos : Pos} {k v : Expr} {ks : List (Option Expr)} {vs : List Expr} {tk tv : TE} {trs : List (TE × TE)}
theorem jp_nil : JPs X pos [] [] [] := ⟨pps_nil⟩
theorem jp_cons (hk : JE X k tk) (hv : JE X v tv) (hr : JPs X pos ks vs trs) : JPs X pos (some k :: ks) (v :: vs) ((tk, tv) :: trs) := ⟨pps_cons hk.h hv.h hr.h⟩
theorem j_disp (h : JPs X pos (some k :: ks) (v :: vs) trs) (hall : (some k :: ks).all (·.isSome) = true := by rfl) (hl : (some k :: ks).length = (v :: vs).length := by rfl) (h15 : (some k :: ks).length ≤ 15 := by decide) : JE X (.Dict (some k :: ks) (v :: vs) pos) (tDisp trs) := ⟨pe_disp h.h hall hl (by intro z; cases z) h15⟩
end
end L2
set_option Elab.async false
set_option linter.all false
set_option maxRecDepth 100000
set_option maxHeartbeats 4000000
namespace K47
open PySem PySem.Spec PyProof.Rows L2
local macro_rules | `(tactic| walk_at "rd") => `(tactic| simp only [tSeq, tAsg, gName, tOp, tUn, tVar, tC, rI, rI0, rU, tIfS, tTest, tRet, tRetN, tNext, tDrop, tCons, tNil, tCall, tCB, tTup, tLst, tSl, tNoPart, tPart, tTrue, tB, tAnd, tOr, tNot, tAndV, tOrV, tNotV, tIf, tTru, rEq, rNe, scal, ipI, rMin, rMax, List.set_cons_zero, List.set_cons_succ, List.getElem?_cons_zero, List.getElem?_cons_succ, Option.some.injEq, V.int.injEq, V.bl.injEq, exists_eq_left', exists_eq_left, exists_and_left, true_and, and_true, blkSt, List.map_cons, List.map_nil, Option.bind_none, Option.bind_some, Option.join_some, L2.start, List.length_cons, List.length_nil, Nat.reduceAdd, Nat.reduceSub, List.replicate_succ, List.replicate_zero, List.cons_append, List.nil_append])
def top (i : Nat) : Stmt := PySem.Challenge.pw_leastlays_k47_papers_texts.main.body.getD i (.Pass ⟨0, 0, 0, 0⟩)
abbrev s_show_vector : Stmt := top 1
abbrev s_show_paper : Stmt := top 2
abbrev s_is_written : Stmt := top 5
abbrev s_read_figures : Stmt := top 6
abbrev s_read_vector : Stmt := top 11
abbrev s_take_all : Stmt := top 13
abbrev s_read_paper : Stmt := top 14
abbrev s__law_pot : Stmt := top 16
abbrev s__law_next : Stmt := top 17
abbrev s__law_of : Stmt := top 18
abbrev s__law_same : Stmt := top 19
abbrev s__law_vectors : Stmt := top 20
abbrev s__law_pair : Stmt := top 21
abbrev s__law_text : Stmt := top 22
abbrev s_law : Stmt := top 23
abbrev s_Sheet___init__ : Stmt := inClass (top 12) 0
abbrev s_Sheet_take : Stmt := inClass (top 12) 1
abbrev s_Sheet_fits : Stmt := inClass (top 12) 2
structure Tx (mg : Str → Option Value) : Prop where
  b_ValueError : mg "ValueError" = none
  b_all : mg "all" = none
  b_bool : mg "bool" = none
  b_enumerate : mg "enumerate" = none
  b_int : mg "int" = none
  b_isinstance : mg "isinstance" = none
  b_len : mg "len" = none
  b_range : mg "range" = none
  b_str : mg "str" = none
  b_tuple : mg "tuple" = none
  b_zip : mg "zip" = none
def figI (x : Int) : Str := figs x.toNat
def Sz (xs : List Int) : Prop := ∀ x ∈ xs, 0 ≤ x ∧ x < 10 ^ 60
abbrev bk : Str := ⟨#[32]⟩
abbrev lf : Str := ⟨#[10]⟩
theorem str_len (x y : Str) : (x ++ y).length = x.length + y.length := by
  show (x ++ y).cps.size = _
  rw [Str.cps_append, Array.size_append]
  rfl
theorem join_le {c B : Nat} : ∀ {ys : List Str}, (∀ y ∈ ys, y.length ≤ B) → (Str.join ⟨#[c]⟩ ys).length ≤ ys.length * (B + 1)
  | [], _ => Nat.zero_le _
  | [x], h => by
    have := h x List.mem_cons_self
    show x.length ≤ 1 * (B + 1)
    omega
  | x :: y :: r, h => by
    have h1 := h x List.mem_cons_self
    have h2 := join_le (c := c) (ys := y :: r) fun z hz => h z (List.mem_cons_of_mem _ hz)
    show (x ++ ⟨#[c]⟩ ++ Str.join ⟨#[c]⟩ (y :: r)).length ≤ _
    rw [str_len, str_len, show (⟨#[c]⟩ : Str).length = 1 from rfl, List.length_cons, Nat.succ_mul]
    omega
theorem figI_len {x : Int} (h : 0 ≤ x ∧ x < 10 ^ 60) : (figI x).length ≤ 60 := (figs_len (by decide)).mpr (by omega)
theorem figI_no {x : Int} {c : Nat} (hc : c < 48) : c ∉ (figI x).cps.toList := fun h => by
  have := figs_all x.toNat c h
  omega
def vt (xs : List Int) : Str := Str.join bk (xs.map figI)
def ln (w : Str) (xs : List Int) : Str := Str.join bk (w :: xs.map figI)
theorem vt_len {xs : List Int} (h : Sz xs) (hl : xs.length ≤ 8) : (vt xs).length ≤ 488 := by
  have := join_le (c := 32) (B := 60) (ys := xs.map figI) (fun y hy => by obtain ⟨x, hx, rfl⟩ := List.mem_map.mp hy; exact figI_len (h x hx))
  rw [List.length_map] at this
  exact Nat.le_trans this (show xs.length * 61 ≤ 8 * 61 from Nat.mul_le_mul hl (Nat.le_refl _))
theorem ln_eq {w : Str} {xs : List Int} (h : 1 ≤ xs.length) : ln w xs = w ++ bk ++ vt xs := by
  cases xs with
  | nil => exact absurd h (by decide)
  | cons x r => rfl
theorem ln_len {w : Str} {xs : List Int} (hw : w.length ≤ 60) (h : Sz xs) (hl : xs.length ≤ 8) : (ln w xs).length ≤ 549 := by
  have := join_le (c := 32) (B := 60) (ys := w :: xs.map figI) (fun y hy => by
    rcases List.mem_cons.mp hy with rfl | hy
    · exact hw
    · obtain ⟨x, hx, rfl⟩ := List.mem_map.mp hy; exact figI_len (h x hx))
  rw [List.length_cons, List.length_map] at this
  exact Nat.le_trans this (show (xs.length + 1) * 61 ≤ 9 * 61 from Nat.mul_le_mul (by omega) (Nat.le_refl _))
theorem mem_join {c d : Nat} : ∀ {ys : List Str}, d ≠ c → (∀ y ∈ ys, d ∉ y.cps.toList) → d ∉ (Str.join ⟨#[c]⟩ ys).cps.toList
  | [], _, _ => fun h => nomatch h
  | [x], _, h => h x List.mem_cons_self
  | x :: y :: r, hd, h => fun hm => by
    rw [join_two] at hm
    rcases List.mem_append.mp hm with q | q
    · exact h x List.mem_cons_self q
    · rcases List.mem_cons.mp q with q | q
      · exact hd q
      · exact mem_join (c := c) hd (fun z hz => h z (List.mem_cons_of_mem _ hz)) q
abbrev wL : Str := ⟨#[108, 101, 97, 115, 116]⟩
abbrev wS : Str := ⟨#[115, 116, 101, 112]⟩
def lns (A B : List (List Int)) : List Str := A.map (ln wL) ++ B.map (ln wS)
def pt (A B : List (List Int)) : Str := Str.join lf (lns A B)
def Vw (n : Nat) (A : List (List Int)) : Prop := ∀ r ∈ A, r.length = n ∧ Sz r
theorem ln_split {w : Str} {xs : List Int} (hw : 32 ∉ w.cps.toList) : PySem.Txt.split (ln w xs) bk = w :: xs.map figI := by
  refine split_join (by simp) fun a ha => ?_
  rcases List.mem_cons.mp ha with rfl | ha
  · exact hw
  · obtain ⟨x, _, rfl⟩ := List.mem_map.mp ha; exact figI_no (by decide)
theorem ln_no {w : Str} {xs : List Int} (hw : 10 ∉ w.cps.toList) : 10 ∉ (ln w xs).cps.toList := by
  refine mem_join (by decide) fun y hy => ?_
  rcases List.mem_cons.mp hy with rfl | hy
  · exact hw
  · obtain ⟨x, _, rfl⟩ := List.mem_map.mp hy; exact figI_no (by decide)
theorem lns_len {A B : List (List Int)} {n : Nat} (hA : Vw n A) (hB : Vw n B) (hn : n ≤ 8) : ∀ y ∈ lns A B, y.length ≤ 549 := fun y hy => by
  rcases List.mem_append.mp hy with q | q
  · obtain ⟨r, hr, rfl⟩ := List.mem_map.mp q
    exact ln_len (by decide) (hA r hr).2 (by rw [(hA r hr).1]; exact hn)
  · obtain ⟨r, hr, rfl⟩ := List.mem_map.mp q
    exact ln_len (by decide) (hB r hr).2 (by rw [(hB r hr).1]; exact hn)
theorem lns_no (A B : List (List Int)) : ∀ y ∈ lns A B, 10 ∉ y.cps.toList := fun y hy => by
  rcases List.mem_append.mp hy with q | q
  · obtain ⟨r, hr, rfl⟩ := List.mem_map.mp q; exact ln_no (by decide)
  · obtain ⟨r, hr, rfl⟩ := List.mem_map.mp q; exact ln_no (by decide)
theorem pt_len {A B : List (List Int)} {n : Nat} (hA : Vw n A) (hB : Vw n B) (hn : n ≤ 8) (hl : A.length + B.length ≤ 100) : (pt A B).length ≤ 55000 := by
  have := join_le (c := 10) (lns_len hA hB hn)
  rw [show (lns A B).length = A.length + B.length by simp [lns]] at this
  exact Nat.le_trans this (show _ ≤ 100 * 550 from Nat.mul_le_mul hl (Nat.le_refl _))
theorem pt_split {A B : List (List Int)} (h : lns A B ≠ []) : PySem.Txt.split (pt A B) lf = lns A B := split_join h (lns_no A B)
theorem ln_ne {w : Str} {xs : List Int} (hw : 0 < w.length) (h : 1 ≤ xs.length) : 0 < (ln w xs).length := by
  rw [ln_eq h, str_len, str_len]
  omega
theorem pt_empty {A B : List (List Int)} {n : Nat} (hA : Vw n A) (hB : Vw n B) (hn : 1 ≤ n) : (pt A B).length = 0 ↔ lns A B = [] := by
  constructor
  · intro h
    have hpos : ∀ y ∈ lns A B, 0 < y.length := fun y hy => by
      rcases List.mem_append.mp hy with q | q
      · obtain ⟨r, hr, rfl⟩ := List.mem_map.mp q; exact ln_ne (by decide) (by rw [(hA r hr).1]; exact hn)
      · obtain ⟨r, hr, rfl⟩ := List.mem_map.mp q; exact ln_ne (by decide) (by rw [(hB r hr).1]; exact hn)
    unfold pt at h
    match hl : lns A B with
    | [] => rfl
    | [x] =>
      rw [hl] at h hpos
      have := hpos x List.mem_cons_self
      have h' : x.length = 0 := h
      omega
    | x :: y :: r =>
      rw [hl] at h
      have h' : (x ++ lf ++ Str.join lf (y :: r)).length = 0 := h
      rw [str_len, str_len, show lf.length = 1 from rfl] at h'
      omega
  · intro h
    unfold pt
    rw [h]
    rfl
section
variable {K : PySem.W.Frag} {α : Type} {src : List (Option Nat)} {σ caps : L2.St} {Q : VK} {a : Addr} {vs : List V} {as : List α} {H : Hp} {te : TE}
theorem list_mapV (f : α → V) (hz : vs.length ≤ sizeLine) (hl : vs.length = as.length) (hmono : ∀ H', Same H H' → SqL K H' a vs) (hsrc : blkSt src σ = none :: caps)
    (hte : ∀ (i : Nat) (v : V) (x : α) (H1 : Hp) (Q1 : VK), vs[i]? = some v → as[i]? = some x → Same H H1 → (∀ H2, Same H1 H2 → Q1 (f x) H2) → te (some v :: caps) H1 Q1) (hd : ∀ H1 p, Same H H1 → H1 p = none → Q (.ref p) (upd H1 p (.lst (as.map f)))) : CompW src (gName 0) tTrue te σ Q (Itl K a) H := by
  refine comp_list (xs := vs) hz (fun i ys H' => Same H H' ∧ ys = (as.take i).map f) ⟨Same.refl H, by simp⟩ (fun i ys H' _ h => ⟨hmono H' h.1, by rw [h.2, List.length_map]; exact List.length_take_le _ _⟩) ?_ ?_
  · rintro i v ys H' hv ⟨s, rfl⟩
    have hi : i < as.length := by rw [← hl]; exact (List.getElem?_eq_some_iff.mp hv).1
    show Sub _ ((blkSt src σ).set 0 (some v)) ∧ _
    rw [hsrc]
    refine ⟨Sub.one, hte i v as[i] H' _ hv (List.getElem?_eq_getElem hi) s fun H2 s2 => ⟨s.trans s2, ?_⟩⟩
    rw [List.take_add_one, List.getElem?_eq_getElem hi, List.map_append]
    rfl
  · rintro ys H' ⟨s, rfl⟩ p hp
    rw [List.take_of_length_le (by omega)]
    exact hd H' p s hp
theorem tup_mapV (f : α → V) (hz : vs.length ≤ sizeLine) (hl : vs.length = as.length) (hmono : ∀ H', Same H H' → SqT K H' a vs) (hsrc : blkSt src σ = none :: caps)
    (hte : ∀ (i : Nat) (v : V) (x : α) (H1 : Hp) (Q1 : VK), vs[i]? = some v → as[i]? = some x → Same H H1 → (∀ H2, Same H1 H2 → Q1 (f x) H2) → te (some v :: caps) H1 Q1) (hd : ∀ H1 p, Same H H1 → H1 p = none → Q (.ref p) (upd H1 p (.lst (as.map f)))) : CompW src (gName 0) tTrue te σ Q (Itt K a) H := by
  refine comp_tup (xs := vs) hz (fun i ys H' => Same H H' ∧ ys = (as.take i).map f) ⟨Same.refl H, by simp⟩ (fun i ys H' _ h => ⟨hmono H' h.1, by rw [h.2, List.length_map]; exact List.length_take_le _ _⟩) ?_ ?_
  · rintro i v ys H' hv ⟨s, rfl⟩
    have hi : i < as.length := by rw [← hl]; exact (List.getElem?_eq_some_iff.mp hv).1
    show Sub _ ((blkSt src σ).set 0 (some v)) ∧ _
    rw [hsrc]
    refine ⟨Sub.one, hte i v as[i] H' _ hv (List.getElem?_eq_getElem hi) s fun H2 s2 => ⟨s.trans s2, ?_⟩⟩
    rw [List.take_add_one, List.getElem?_eq_getElem hi, List.map_append]
    rfl
  · rintro ys H' ⟨s, rfl⟩ p hp
    rw [List.take_of_length_le (by omega)]
    exact hd H' p s hp
end
section
variable {P : Program} {w : World} {K : PySem.W.Frag} {mg : Str → Option Value} {base : Heap}
theorem rd_figs {x : Int} {H : Hp} {Q : VK} (hx : 0 ≤ x ∧ x < 10 ^ 60) (q : Q (.str (figI x)) H) : rStrI [.int x] H Q := by
  obtain ⟨n, rfl⟩ : ∃ n : Nat, x = n := ⟨x.toNat, by omega⟩
  exact ⟨n, rfl, Nat.lt_of_lt_of_le (show n < 10 ^ 60 by omega) (by decide +kernel), q⟩
def spShowV : Sp := fun vs H Q _ => ∃ (v : V) (xs : List Int), vs = [v] ∧ IT H v xs ∧ Sz xs ∧ xs.length ≤ 8 ∧ ∀ H', Same H H' → Q (.str (vt xs)) H'
theorem sc_show_vector : FnScope ["one"] ["one"] (defScope s_show_vector) := ⟨rfl, rfl, rfl, by decide +kernel, rfl, by decide +kernel, by decide +kernel⟩
theorem ok_show_vector (F : FunAt K mg "show_vector" s_show_vector ["one"]) (T : Tx mg) : Ok P w K mg base "show_vector" 1 ["one"] spShowV := by
  refine F.okJ sc_show_vector (fun vs H Q E h => ?_) (fun cdv f A outer s H vs Q E hr h => ?_)
  · obtain ⟨v, xs, rfl, _⟩ := h
    rfl
  · obtain ⟨_, xs, rfl, ⟨a, rfl, ha⟩, hx, hl, k⟩ := h
    have hz : (3000 : Nat) ≤ sizeLine := by rw [sizeLine_eq]; decide
    refine ⟨_, (jb_one (js_ret (jm_join K j_str (ja_cons (j_comp (N := ["number"]) (src := [none]) (ji_tup K (jv 0)) (by show capOk _ _ = true; rfl) (by rfl) (by rfl)
  (fun _ _ _ _ _ => (jg_name (i := 0) (show (["number"] : List Str).Nodup by decide +kernel) rfl (Or.inl rfl))) (fun _ _ _ _ _ => jf_nil) (fun _ _ _ _ _ => (jc_strI rfl T.b_str (ja_cons (jv 0) ja_nil)))) ja_nil)))), ?_⟩
    have hl' : (xs.map V.int).length ≤ 8 := by rw [List.length_map]; exact hl
    refine ⟨rfl, ?_⟩
    refine ⟨_, rfl, a, rfl, ⟨_, SqT.of ha⟩, ?_⟩
    refine tup_mapV (vs := xs.map V.int) (as := xs) (caps := []) (fun x => V.str (figI x)) (by omega) (List.length_map ..) (fun H' s => SqT.of (s _ _ ha)) rfl (fun i v x H1 Q1 hv hx1 s1 q => ?_) fun H1 p s1 hp => ?_
    · rw [List.getElem?_map, hx1] at hv
      cases hv
      exact ⟨_, rfl, rd_figs (hx x (List.mem_of_getElem? hx1)) (q _ (Same.refl _))⟩
    · have hB : ∀ y ∈ xs.map figI, y.length ≤ 60 := fun y hy => by obtain ⟨x, hx1, rfl⟩ := List.mem_map.mp hy; exact figI_len (hx x hx1)
      have h2 := vt_len hx hl
      refine ⟨bk, p, xs.map figI, 60, rfl, rfl, by rw [List.map_map]; exact SqL.of upd_same, hB, ?_, by show (vt xs).length ≤ _; omega, k _ (s1.upd hp)⟩
      rw [List.length_map, show bk.length = 1 from rfl]
      omega
def VV2 (H : Hp) (v : V) (A : List (List Int)) : Prop := ∃ a us, v = .ref a ∧ H a = some (.tup us) ∧ Its H us A
theorem VV2.same {H H' : Hp} {v : V} {A : List (List Int)} (h : VV2 H v A) (s : Same H H') : VV2 H' v A := let ⟨a, us, e, e1, e2⟩ := h; ⟨a, us, e, s _ _ e1, e2.same s⟩
def spShowP : Sp := fun vs H Q _ => ∃ (u v : V) (A B : List (List Int)) (n : Nat), vs = [u, v] ∧ VV2 H u A ∧ VV2 H v B ∧ Vw n A ∧ Vw n B ∧ 1 ≤ n ∧ n ≤ 8 ∧ A.length + B.length ≤ 100 ∧ ∀ H', Same H H' → Q (.str (pt A B)) H'
theorem sc_show_paper : FnScope ["told", "paper", "lines"] ["told", "paper"] (defScope s_show_paper) := ⟨rfl, rfl, rfl, by decide +kernel, rfl, by decide +kernel, by decide +kernel⟩
theorem show_lines {te : TE} {σ caps : L2.St} {src : List (Option Nat)} {Q : VK} {a : Addr} {us : List V} {A : List (List Int)} {n : Nat} {H : Hp} {w1 w2 : Str} (hw : w1 = w2 ++ bk) (hw6 : w1.length ≤ 60) (ha : H a = some (.tup us)) (hI : Its H us A) (hA : Vw n A) (h1 : 1 ≤ n) (h8 : n ≤ 8) (hl : A.length ≤ 100) (hsrc : blkSt src σ = none :: caps)
    (hte : ∀ v H1 (Q1 : VK) (x : Str), (∀ (Q2 : VK), (∀ H', Same H1 H' → Q2 (.str x) H') → tCall spShowV [] E0 (tCons (tVar 0) tNil) (some v :: caps) H1 Q2) → x.length ≤ 488 → (∀ H2, Same H1 H2 → Q1 (.str (w1 ++ x)) H2) → te (some v :: caps) H1 Q1)
    (hd : ∀ H1 p, Same H H1 → H1 p = none → Q (.ref p) (upd H1 p (.lst ((A.map (ln w2)).map V.str)))) : CompW src (gName 0) tTrue te σ Q (Itt K a) H := by
  have hz : (3000 : Nat) ≤ sizeLine := by rw [sizeLine_eq]; decide
  refine tup_mapV (vs := us) (as := A) (caps := caps) (fun r => V.str (ln w2 r)) (by rw [hI.1]; omega) hI.1 (fun H' s => SqT.of (s _ _ ha)) hsrc (fun i v r H1 Q1 hv hr s1 q => ?_) fun H1 p s1 hp => ?_
  · obtain ⟨r', hr', hv'⟩ := hI.2 i v hv
    rw [hr] at hr'
    cases hr'
    obtain ⟨r1, r2⟩ := hA r (List.mem_of_getElem? hr)
    refine hte v H1 Q1 (vt r) (fun Q2 q2 => ⟨_, rfl, v, r, rfl, hv'.same s1, r2, by omega, q2⟩) (vt_len r2 (by omega)) fun H2 s2 => ?_
    rw [hw, ← ln_eq (by omega)]
    exact q H2 s2
  · have := hd H1 p s1 hp
    rw [List.map_map] at this
    exact this
theorem ok_show_paper (F : FunAt K mg "show_paper" s_show_paper ["told", "paper"]) (T : Tx mg) (O_show_vector : Ok P w K mg base "show_vector" 1 ["one"] spShowV) : Ok P w K mg base "show_paper" 2 ["told", "paper"] spShowP := by
  refine F.okJ sc_show_paper (fun vs H Q E h => ?_) (fun cdv f A outer s H vs Q E hr h => ?_)
  · obtain ⟨u, v, A, B, n, rfl, _⟩ := h
    rfl
  · obtain ⟨_, _, A', B, n, rfl, ⟨a, us, rfl, ha, hA⟩, ⟨b, ws, rfl, hb, hB⟩, wA, wB, n1, n8, hl, k⟩ := h
    have hz : (300000 : Nat) ≤ sizeLine := by rw [sizeLine_eq]; decide
    refine ⟨_, (jb_cons (js_set (i := 2) sc_show_paper.nd rfl (Or.inl rfl) (j_cat (j_comp (N := ["one"]) (src := [none]) (ji_tup K (jv 0)) (by show capOk _ _ = true; rfl) (by rfl) (by rfl)
  (fun _ _ _ _ _ => (jg_name (i := 0) (show (["one"] : List Str).Nodup by decide +kernel) rfl (Or.inl rfl))) (fun _ _ _ _ _ => jf_nil) (fun _ _ _ _ _ => (j_addstr j_str (j_call O_show_vector (hr.mono (by omega)) rfl (ja_cons (jv 0) ja_nil))))) (j_comp (N := ["one"]) (src := [none]) (ji_tup K (jv 1)) (by show capOk _ _ = true; rfl) (by rfl) (by rfl)
  (fun _ _ _ _ _ => (jg_name (i := 0) (show (["one"] : List Str).Nodup by decide +kernel) rfl (Or.inl rfl))) (fun _ _ _ _ _ => jf_nil) (fun _ _ _ _ _ => (j_addstr j_str (j_call O_show_vector (hr.mono (by omega)) rfl (ja_cons (jv 0) ja_nil)))))))
 (jb_one (js_ret (jm_join K j_str (ja_cons (jv 2) ja_nil))))), ?_⟩
    refine ⟨_, rfl, a, rfl, ⟨_, SqT.of ha⟩, ?_⟩
    refine show_lines (w1 := wL ++ bk) (w2 := wL) rfl (by decide) ha hA wA n1 n8 (by omega) rfl (fun v H1 Q1 x hx hxl q => ?_) fun H1 p1 s1 hp1 => ?_
    · exact hx _ fun H' s' => ⟨_, x, rfl, rfl, by show 6 + _ ≤ _; omega, q H' s'⟩
    have s2 := s1.upd (o := .lst ((A'.map (ln wL)).map V.str)) hp1
    have e2 : upd H1 p1 (.lst ((A'.map (ln wL)).map V.str)) p1 = some (.lst ((A'.map (ln wL)).map V.str)) := upd_same
    generalize upd H1 p1 (.lst ((A'.map (ln wL)).map V.str)) = H2 at s2 e2
    refine ⟨_, rfl, b, rfl, ⟨_, SqT.of (s2 _ _ hb)⟩, ?_⟩
    refine show_lines (w1 := wS ++ bk) (w2 := wS) rfl (by decide) (s2 _ _ hb) (hB.same s2) wB n1 n8 (by omega) rfl (fun v H1 Q1 x hx hxl q => ?_) fun H3 p3 s3 hp3 => ?_
    · exact hx _ fun H' s' => ⟨_, x, rfl, rfl, by show 5 + _ ≤ _; omega, q H' s'⟩
    have s4 := s3.upd (o := .lst ((B.map (ln wS)).map V.str)) hp3
    refine ⟨p1, p3, _, _, rfl, rfl, s4 _ _ e2, upd_same, by simp only [List.length_map]; omega, fun p5 hp5 => ?_⟩
    have s6 := (s2.trans s4).upd (o := .lst ((A'.map (ln wL)).map V.str ++ (B.map (ln wS)).map V.str)) hp5
    have hp := pt_len wA wB n8 (by omega)
    refine ⟨rfl, _, rfl, lf, p5, lns A' B, 549, rfl, rfl, SqL.of (by rw [upd_same, lns, List.map_append]), lns_len wA wB n8, ?_, by show (pt A' B).length ≤ _; omega, k _ s6⟩
    rw [show (lns A' B).length = A'.length + B.length by simp [lns], show lf.length = 1 from rfl]
    omega
end
section
variable {P : Program} {w : World} {K : PySem.W.Frag} {mg : Str → Option Value} {base : Heap}
abbrev fgs : Str := Str.ofString "0123456789"
theorem fgs_mem (c : Nat) : c ∈ fgs.cps.toList ↔ 48 ≤ c ∧ c ≤ 57 := by
  have e : fgs.cps.toList = [48, 49, 50, 51, 52, 53, 54, 55, 56, 57] := by with_unfolding_all rfl
  rw [e]
  simp only [List.mem_cons, List.not_mem_nil, or_false]
  omega
theorem figI_all (x : Int) : ∀ c ∈ (figI x).cps.toList, 48 ≤ c ∧ c ≤ 57 := fun c hc => by
  have := figs_all x.toNat c hc
  omega
theorem figI_ascii (x : Int) : (figI x).cps.all (· < 128) = true := by
  rw [Array.all_eq_true']
  intro c hc
  have := figI_all x c (by simpa using hc)
  exact decide_eq_true (by omega)
def spIsW : Sp := fun vs H Q _ => ∃ x : Int, vs = [.str (figI x)] ∧ (0 ≤ x ∧ x < 10 ^ 60) ∧ ∀ H', Same H H' → Q (.bl true) H'
theorem sc_is_written : FnScope ["word"] ["word"] (defScope s_is_written) := ⟨rfl, rfl, rfl, by decide +kernel, rfl, by decide +kernel, by decide +kernel⟩
theorem figI_word {x : Int} (hx : 0 ≤ x) : figI x = Str.ofString "0" ∨ (figI x ≠ Str.ofString "" ∧ ∃ c, c ≠ 48 ∧ atI (figI x).cps.toList 0 = some c) := by
  by_cases h0 : x.toNat = 0
  · exact .inl (by unfold figI; rw [h0]; exact figs_zero)
  · refine .inr ⟨fun e => figs_ne x.toNat (by rw [show figs x.toNat = figI x from rfl, e]; rfl), ?_⟩
    have hh := figs_head x.toNat (by omega)
    have hn := figs_ne x.toNat
    rw [show figs x.toNat = figI x from rfl] at hh hn
    cases e : (figI x).cps.toList with
    | nil => exact absurd e hn
    | cons c r =>
      rw [e] at hh
      exact ⟨c, fun z => hh (by rw [z]; rfl), atI_nat (j := 0) rfl⟩
theorem dq0 {c : Nat} (h : c ≠ 48) : (!decide (V.str ⟨#[c]⟩ = V.str (Str.ofString "0"))) = true := by
  rw [decide_eq_false fun z => ?_]
  · rfl
  · injection z with z
    have z' : [c] = [48] := congrArg (fun t : Str => t.cps.toList) z
    injection z' with z'
    exact h z'
theorem ok_is_written {tF : Tok} (F : FunAt K mg "is_written" s_is_written ["word"]) (T : Tx mg) (M_FIGURES : mg "FIGURES" = some (.str fgs tF)) : Ok P w K mg base "is_written" 1 ["word"] spIsW := by
  refine F.okJ sc_is_written (fun vs H Q E h => ?_) (fun cdv f A outer s H vs Q E hr h => ?_)
  · obtain ⟨x, rfl, _⟩ := h
    rfl
  · obtain ⟨x, rfl, hx, k⟩ := h
    have hz : (3000 : Nat) ≤ sizeLine := by rw [sizeLine_eq]; decide
    have hl := figI_len hx
    refine ⟨_, (jb_cons (js_if (jt_not (jt_tru K (jc_all K rfl T.b_all (ja_cons (j_comp (N := ["sign"]) (src := [none]) (ji_sign (jv 0)) (by show capOk _ _ = true; rfl) (by rfl) (by rfl)
  (fun _ _ _ _ _ => (jg_name (i := 0) (show (["sign"] : List Str).Nodup by decide +kernel) rfl (Or.inl rfl))) (fun _ _ _ _ _ => jf_nil) (fun _ _ _ _ _ => (jv_inS (jv 0) (j_glob (v := .str (Str.ofString "0123456789")) rfl M_FIGURES ⟨_, rfl⟩) (by with_unfolding_all rfl)))) ja_nil))))
 (jb_one (js_ret j_bl))
 jb_nil)
 (jb_one (js_ret (j_or (jv_eq (jv 0) j_str) (j_one (j_and (jv_ne (jv 0) j_str) (j_one (jv_ne (j_ixC (jv 0) j_int) j_str)))))))), ?_⟩
    refine ⟨_, rfl, _, rfl, figI_ascii x, ?_⟩
    refine comp_sign (x := figI x) (by show (figI x).length ≤ _; omega) (fun i ys H' => H' = H ∧ ys = List.replicate i (.bl true)) ⟨rfl, rfl⟩ (fun i ys H' h => by rw [h.2, List.length_replicate]; exact Nat.le_refl _) ?_ ?_
    · rintro i c ys H' hc ⟨rfl, rfl⟩
      refine ⟨Sub.one, ?_⟩
      refine ⟨_, rfl, c, fgs, rfl, rfl, rfl, ?_⟩
      have hm : c ∈ (figI x).cps.toList := by
        rw [← Array.getElem?_toList] at hc
        exact List.mem_of_getElem? hc
      rw [List.replicate_succ', decide_eq_true ((fgs_mem c).mpr (figI_all x c hm))]
    · rintro ys H' ⟨rfl, rfl⟩ p hp
      have s1 := (Same.refl H').upd (o := .lst (List.replicate (figI x).cps.size (V.bl true))) hp
      refine ⟨false, p, _, rfl, SqL.of upd_same, by simp [flatT], ?_⟩
      rw [show (List.replicate (figI x).cps.size (V.bl true)).all trV = true by simp [trV]]
      refine ⟨_, rfl, iteF ?_⟩
      refine ⟨_, rfl, rfl, _, rfl, ite2 (fun e => k _ s1) (fun e => ?_)⟩
      rcases figI_word hx.1 with z | ⟨z1, c, z2, z3⟩
      · exact absurd (decide_eq_true (by rw [z])) e
      refine ⟨_, rfl, rfl, _, rfl, ?_⟩
      rw [decide_eq_false (fun y => z1 (by injection y))]
      refine iteT ⟨_, rfl, _, 0, c, rfl, rfl, by omega, z3, rfl, ?_⟩
      rw [dq0 z2]
      exact k _ s1
def spRF : Sp := fun vs H Q _ => ∃ x : Int, vs = [.str (figI x), .int 60] ∧ (0 ≤ x ∧ x < 10 ^ 60) ∧ ∀ H', Same H H' → Q (.int x) H'
theorem sc_read_figures : FnScope ["word", "most"] ["word", "most"] (defScope s_read_figures) := ⟨rfl, rfl, rfl, by decide +kernel, rfl, by decide +kernel, by decide +kernel⟩
theorem ok_read_figures (F : FunAt K mg "read_figures" s_read_figures ["word", "most"]) (T : Tx mg) (O_is_written : Ok P w K mg base "is_written" 1 ["word"] spIsW) : Ok P w K mg base "read_figures" 2 ["word", "most"] spRF := by
  refine F.okJ sc_read_figures (fun vs H Q E h => ?_) (fun cdv f A outer s H vs Q E hr h => ?_)
  · obtain ⟨x, rfl, _⟩ := h
    rfl
  · obtain ⟨x, rfl, hx, k⟩ := h
    have hz : (3000 : Nat) ≤ sizeLine := by rw [sizeLine_eq]; decide
    have hl := figI_len hx
    refine ⟨_, (jb_cons (js_if (jt_w (jw_or (jt_gt (jc_lenS rfl T.b_len (ja_cons (jv 0) ja_nil)) (jv 1)) (jw_or1 (jt_not (jt_tru K (j_call O_is_written (hr.mono (by omega)) rfl (ja_cons (jv 0) ja_nil)))))))
 (jb_one (js_ret j_non))
 jb_nil)
 (jb_one (js_ret (jc_intT rfl T.b_int (ja_cons (jv 0) ja_nil))))), ?_⟩
    refine ⟨_, rfl, _, rfl, by omega, _, rfl, _, _, rfl, rfl, _, rfl, ?_⟩
    rw [decide_eq_false (by omega)]
    refine iteF ⟨_, rfl, x, rfl, hx, fun H1 s1 => ⟨_, rfl, iteF ?_⟩⟩
    have he : PySem.intText? (figI x) = some x := by
      have := figs_reads (n := x.toNat) (by show (figI x).length ≤ 4300; omega)
      rw [show ((x.toNat : Nat) : Int) = x by omega] at this
      exact this
    exact ⟨_, rfl, _, x, rfl, by omega, he, k H1 s1⟩
def spRV (K : PySem.W.Frag) : Sp := fun vs H Q _ => ∃ (p : Addr) (xs : List Int), vs = [.ref p] ∧ SqL K H p ((xs.map figI).map V.str) ∧ Sz xs ∧ 1 ≤ xs.length ∧ xs.length ≤ 8 ∧ ∀ v H', IT H' v xs → Same H H' → Q v H'
theorem sc_read_vector : FnScope ["words", "numbers"] ["words"] (defScope s_read_vector) := ⟨rfl, rfl, rfl, by decide +kernel, rfl, by decide +kernel, by decide +kernel⟩
theorem ok_read_vector (F : FunAt K mg "read_vector" s_read_vector ["words"]) (T : Tx mg) (O_read_figures : Ok P w K mg base "read_figures" 2 ["word", "most"] spRF) : Ok P w K mg base "read_vector" 3 ["words"] (spRV K) := by
  refine F.okJ sc_read_vector (fun vs H Q E h => ?_) (fun cdv f A outer s H vs Q E hr h => ?_)
  · obtain ⟨p, xs, rfl, _⟩ := h
    rfl
  · obtain ⟨a, xs, rfl, ha, hx, h1, h8, k⟩ := h
    have hz : (3000 : Nat) ≤ sizeLine := by rw [sizeLine_eq]; decide
    refine ⟨_, (jb_cons (js_setC (i := 1) sc_read_vector.nd rfl (Or.inl rfl) (N := ["word"]) (src := [none]) (ji_list K (jv 0)) (by show capOk _ _ = true; rfl) (by rfl) (by rfl)
  (fun _ _ _ _ _ => (jg_name (i := 0) (show (["word"] : List Str).Nodup by decide +kernel) rfl (Or.inl rfl))) (fun _ _ _ _ _ => jf_nil) (fun _ _ _ _ _ => (j_call O_read_figures (hr.mono (by omega)) rfl (ja_cons (jv 0) (ja_cons j_int ja_nil)))))
 (jb_cons (js_if (jt_w (jw_or (jt_not (jt_lele j_int (jc_len K rfl T.b_len (ja_cons (jv 1) ja_nil)) j_int)) (jw_or1 (jt_inK K j_non (jv 1) (by with_unfolding_all rfl)))))
 (jb_one (js_ret j_non))
 jb_nil)
 (jb_one (js_ret (jc_tuple K rfl T.b_tuple (ja_cons (jv 1) ja_nil)))))), ?_⟩
    refine ⟨_, rfl, a, rfl, ⟨_, ha⟩, ?_⟩
    refine list_mapV (vs := (xs.map figI).map V.str) (as := xs) (caps := []) V.int (by simp only [List.length_map]; omega) (by simp) (fun H' s => s.seq ha) rfl (fun i v x H1 Q1 hv hx1 s1 q => ?_) fun H1 p s1 hp => ?_
    · rw [List.getElem?_map, List.getElem?_map, hx1] at hv
      cases hv
      exact ⟨_, rfl, x, rfl, hx x (List.mem_of_getElem? hx1), q⟩
    have s2 := s1.upd (o := .lst (xs.map V.int)) hp
    have e2 : upd H1 p (.lst (xs.map V.int)) p = some (.lst (xs.map V.int)) := upd_same
    generalize upd H1 p (.lst (xs.map V.int)) = H2 at s2 e2
    refine ⟨_, rfl, p, _, rfl, .inl (SqL.of e2), _, _, rfl, rfl, _, rfl, ?_⟩
    rw [List.length_map, decide_eq_true (show (1 : Int) ≤ (xs.length : Int) by omega)]
    refine iteT ⟨_, _, rfl, rfl, _, rfl, ?_⟩
    rw [decide_eq_true (show (xs.length : Int) ≤ 8 by omega)]
    refine iteF ⟨_, rfl, p, _, rfl, .inl (SqL.of e2), rfl, by simp [flatV], _, rfl, ?_⟩
    rw [show inV V.non (xs.map V.int) = false by simp [inV, eqV]]
    refine iteF ⟨_, rfl, p, _, rfl, .inl ⟨SqL.of e2, fun q hq => ?_⟩⟩
    exact k _ _ ⟨q, rfl, upd_same⟩ (s2.upd hq)
end
def sfl (al aw : Addr) : List (Str × V) := [("least_ones", .ref al), ("walked", .ref aw)]
section
variable (al aw : Addr)
theorem sfl_l : (sfl al aw).lookup ("least_ones" : Str) = some (.ref al) := by with_unfolding_all rfl
theorem sfl_w : (sfl al aw).lookup ("walked" : Str) = some (.ref aw) := by with_unfolding_all rfl
theorem sfl_take : (sfl al aw).lookup ("take" : Str) = none := by with_unfolding_all rfl
theorem sfl_fits : (sfl al aw).lookup ("fits" : Str) = none := by with_unfolding_all rfl
theorem sfl_put : putF "walked" (.ref aw) (putF "least_ones" (.ref al) []) = sfl al aw := by with_unfolding_all rfl
end
structure ShTx (K : PySem.W.Frag) (C : Addr) : Prop where
  cl : Cls K C
  n1 : NoAttr K C "least_ones"
  n2 : NoAttr K C "walked"
structure ShAt (C : Addr) (H : Hp) (p al aw : Addr) (A B : List (List Int)) : Prop where
  ob : ∃ dx, H p = some (.ins C dx (sfl al aw))
  ha : ∃ us, H al = some (.lst us) ∧ Its H us A
  hb : ∃ us, H aw = some (.lst us) ∧ Its H us B
  ne : al ≠ aw
theorem ShAt.same {C : Addr} {H H' : Hp} {p al aw : Addr} {A B : List (List Int)} (h : ShAt C H p al aw A B) (s : Same H H') : ShAt C H' p al aw A B := by
  obtain ⟨⟨dx, h1⟩, ⟨us, a1, a2⟩, ⟨ws, b1, b2⟩, ne⟩ := h
  exact ⟨⟨dx, s _ _ h1⟩, ⟨us, s _ _ a1, a2.same s⟩, ⟨ws, s _ _ b1, b2.same s⟩, ne⟩
section
variable {P : Program} {w : World} {K : PySem.W.Frag} {mg : Str → Option Value} {base : Heap} {C : Addr}
def spSInit (C : Addr) : Sp := fun vs H Q _ => ∃ (p dx : Addr), vs = [.ref p] ∧ H p = some (.ins C dx []) ∧ ∀ (al aw : Addr) (H' : Hp), H al = none → H aw = none → ShAt C H' p al aw [] [] → (∀ b o, H b = some o → b ≠ p → H' b = some o) → Q .non H'
theorem sc_Sheet___init__ : FnScope ["self"] ["self"] (defScope s_Sheet___init__) := ⟨rfl, rfl, rfl, by decide +kernel, rfl, by decide +kernel, by decide +kernel⟩
theorem ok_sinit (FM : MethAt K C "__init__" "Sheet.__init__" s_Sheet___init__ ["self"]) (U : ShTx K C) : MethOk P w K mg base C "__init__" 1 ["self"] (spSInit C) := by
  refine FM.fnJ sc_Sheet___init__ (fun vs H Q E h => ?_) (fun cdv f A outer s H vs Q E hr h => ?_)
  · obtain ⟨p, dx, rfl, _⟩ := h
    rfl
  · obtain ⟨p, dx, rfl, hp, k⟩ := h
    refine ⟨_, (jb_cons (js_fld K (jv 0) (j_lst ja_nil))
 (jb_one (js_fld K (jv 0) (j_lst ja_nil)))), ?_⟩
    refine ⟨Nat.zero_le _, fun al hal => ?_⟩
    have pa : p ≠ al := ne_of_none hp hal
    refine ⟨_, rfl, p, C, dx, _, rfl, by rw [upd_ne pa]; exact hp, U.cl, U.n1, by decide, ?_⟩
    refine ⟨Nat.zero_le _, fun aw haw => ?_⟩
    have pw : p ≠ aw := fun z => by subst z; rw [upd_same] at haw; cases haw
    have haw1 := haw
    rw [upd_ne pw.symm] at haw1
    have alw : al ≠ aw := ne_of_none (o := .lst []) upd_same haw1
    rw [upd_ne alw.symm] at haw1
    refine ⟨_, rfl, p, C, dx, _, rfl, by rw [upd_ne pw]; exact upd_same, U.cl, U.n2, by show (1 : Nat) < 1000; decide, ?_⟩
    refine k al aw _ hal haw1 ⟨⟨dx, ?_⟩, ⟨[], ?_, .nil⟩, ⟨[], ?_, .nil⟩, alw⟩ fun b o e hb => ?_
    · rw [upd_same, sfl_put]
    · rw [upd_ne pa.symm, upd_ne alw, upd_ne pa.symm, upd_same]
    · rw [upd_ne pw.symm, upd_same]
    · rw [upd_ne hb, upd_ne (ne_of_none e haw1), upd_ne hb, upd_ne (ne_of_none e hal)]
      exact e
def spFits (C : Addr) : Sp := fun vs H Q _ => ∃ (p al aw : Addr) (v : V) (xs : List Int) (A B : List (List Int)), vs = [.ref p, v] ∧ ShAt C H p al aw A B ∧ IT H v xs ∧ (∀ r ∈ A, r.length = xs.length) ∧ (∀ r ∈ B, r.length = xs.length) ∧ ∀ H', Same H H' → Q (.bl true) H'
theorem mapall {α : Type} (l : List α) (p : V → Bool) (h : p (.bl true) = true) : (l.map fun _ => V.bl true).all p = true := by
  rw [List.all_eq_true]
  intro x hx
  obtain ⟨_, _, rfl⟩ := List.mem_map.mp hx
  exact h
theorem cut_one (xs : List V) : cutV xs none (some (1 : Int)) = xs.take 1 := by
  unfold cutV
  rw [show (1 : Int) = ((1 : Nat) : Int) from rfl, HT.sIx_none, HT.sIx_nat, List.drop_zero, Nat.sub_zero]
  cases xs <;> simp
theorem sc_Sheet_fits : FnScope ["self", "one"] ["self", "one"] (defScope s_Sheet_fits) := ⟨rfl, rfl, rfl, by decide +kernel, rfl, by decide +kernel, by decide +kernel⟩
theorem ok_fits (FM : MethAt K C "fits" "Sheet.fits" s_Sheet_fits ["self", "one"]) (U : ShTx K C) (T : Tx mg) : MethOk P w K mg base C "fits" 1 ["self", "one"] (spFits C) := by
  refine FM.fnJ sc_Sheet_fits (fun vs H Q E h => ?_) (fun cdv f A outer s H vs Q E hr h => ?_)
  · obtain ⟨p, al, aw, v, xs, A, B, rfl, _⟩ := h
    rfl
  · obtain ⟨p, al, aw, _, xs, A', B, rfl, D, ⟨a, rfl, ha⟩, wA, wB, k⟩ := h
    have hz : (3000 : Nat) ≤ sizeLine := by rw [sizeLine_eq]; decide
    obtain ⟨⟨dx, hp⟩, ⟨us, a1, a2⟩, ⟨ws, b1, b2⟩, ne⟩ := D
    refine ⟨_, (jb_one (js_ret (jc_all K rfl T.b_all (ja_cons (j_comp (N := ["other", "one"]) (src := [none, some 1]) (ji_list K (j_cat (j_slL K (j_fld K (jv 0)) jo_none (jo_some j_int)) (j_slL K (j_fld K (jv 0)) jo_none (jo_some j_int)))) (by show capOk _ _ = true; rfl) (by rfl) (by rfl)
  (fun _ _ _ _ _ => (jg_name (i := 0) (show (["other", "one"] : List Str).Nodup by decide +kernel) rfl (Or.inl rfl))) (fun _ _ _ _ _ => jf_nil) (fun _ _ _ _ _ => (jv_eq (jc_len K rfl T.b_len (ja_cons (jv 1) ja_nil)) (jc_len K rfl T.b_len (ja_cons (jv 0) ja_nil))))) ja_nil)))), ?_⟩
    refine ⟨_, rfl, p, C, dx, _, _, rfl, hp, U.cl, U.n1, sfl_l _ _, _, rfl, al, us, rfl, SqL.of a1, fun p1 hp1 => ?_⟩
    rw [cut_one]
    have s1 := (Same.refl H).upd (o := .lst (us.take 1)) hp1
    have e1 : upd H p1 (.lst (us.take 1)) p1 = some (.lst (us.take 1)) := upd_same
    generalize upd H p1 (.lst (us.take 1)) = H1 at s1 e1
    refine ⟨_, rfl, p, C, dx, _, _, rfl, s1 _ _ hp, U.cl, U.n2, sfl_w _ _, _, rfl, aw, ws, rfl, SqL.of (s1 _ _ b1), fun p2 hp2 => ?_⟩
    rw [cut_one]
    have s2 := s1.upd (o := .lst (ws.take 1)) hp2
    have e2 := upd_keep (o := .lst (ws.take 1)) e1 hp2
    have l1 : (us.take 1).length ≤ 1 := List.length_take_le _ _
    have l2 : (ws.take 1).length ≤ 1 := List.length_take_le _ _
    refine ⟨p1, p2, _, _, rfl, rfl, e2, upd_same, by omega, fun p3 hp3 => ?_⟩
    have s3 := s2.upd (o := .lst (us.take 1 ++ ws.take 1)) hp3
    have e3 : upd (upd H1 p2 (.lst (ws.take 1))) p3 (.lst (us.take 1 ++ ws.take 1)) p3 = some (.lst (us.take 1 ++ ws.take 1)) := upd_same
    generalize upd (upd H1 p2 (.lst (ws.take 1))) p3 (.lst (us.take 1 ++ ws.take 1)) = H3 at s3 e3
    have hI : Its H3 (us.take 1 ++ ws.take 1) (A'.take 1 ++ B.take 1) := ((a2.take 1).app (b2.take 1)).same s3
    refine ⟨p3, rfl, ⟨_, SqL.of e3⟩, ?_⟩
    have hl : (us.take 1 ++ ws.take 1).length ≤ 2 := by rw [List.length_append]; omega
    refine list_mapV (vs := us.take 1 ++ ws.take 1) (as := A'.take 1 ++ B.take 1) (caps := [some (.ref a)]) (fun _ => V.bl true) (by omega) hI.1 (fun H' s => SqL.of (s _ _ e3)) rfl (fun i v r H4 Q4 hv hr4 s4 q => ?_) fun H4 p4 s4 hp4 => ?_
    · obtain ⟨r', hr', b, rfl, hv'⟩ := hI.2 i v hv
      rw [hr4] at hr'
      cases hr'
      have hrl : r.length = xs.length := by
        rcases List.mem_append.mp (List.mem_of_getElem? hr4) with z | z
        · exact wA r (List.mem_of_mem_take z)
        · exact wB r (List.mem_of_mem_take z)
      refine ⟨_, rfl, a, _, rfl, .inr (SqT.of (s4 _ _ (s3 _ _ ha))), _, rfl, b, _, rfl, .inr (SqT.of (s4 _ _ hv')), rfl, ?_⟩
      rw [List.length_map, List.length_map, hrl, decide_eq_true rfl]
      exact q _ (Same.refl _)
    · refine ⟨false, p4, _, rfl, SqL.of upd_same, ?_, ?_⟩
      · exact mapall _ _ rfl
      · rw [mapall _ trV rfl]
        exact k _ ((s3.trans s4).upd hp4)
def spTakeS (K : PySem.W.Frag) (C : Addr) : Sp := fun vs H Q _ => ∃ (p al aw l : Addr) (w : Str) (xs : List Int) (A B : List (List Int)), vs = [.ref p, .ref l] ∧ ShAt C H p al aw A B ∧ SqL K H l ((w :: xs.map figI).map V.str) ∧ Sz xs ∧ 1 ≤ xs.length ∧ xs.length ≤ 8 ∧ (∀ r ∈ A, r.length = xs.length) ∧ (∀ r ∈ B, r.length = xs.length) ∧ A.length + B.length ≤ 100 ∧
  ((w = wL ∧ B = [] ∧ ∀ H', ShAt C H' p al aw (A ++ [xs]) B → Off [al, aw] H H' → Q (.bl true) H') ∨ (w = wS ∧ ∀ H', ShAt C H' p al aw A (B ++ [xs]) → Off [al, aw] H H' → Q (.bl true) H'))
theorem sc_Sheet_take : FnScope ["self", "words", "one"] ["self", "words"] (defScope s_Sheet_take) := ⟨rfl, rfl, rfl, by decide +kernel, rfl, by decide +kernel, by decide +kernel⟩
theorem cut_tl (x : V) (xs : List V) : cutV (x :: xs) (some (1 : Int)) none = xs := by
  unfold cutV
  rw [show (1 : Int) = ((1 : Nat) : Int) from rfl, HT.sIx_none, HT.sIx_nat]
  simp
theorem sh_off {H : Hp} {C p al aw : Addr} {A B : List (List Int)} {us : List V} {r : List Int} {v : V} (D : ShAt C H p al aw A B) (hv : IT H v r) (hl : H al = some (.lst us)) (hI : Its H us A) : ShAt C (upd H al (.lst (us ++ [v]))) p al aw (A ++ [r]) B := by
  obtain ⟨⟨dx, hp⟩, _, ⟨ws, b1, b2⟩, ne⟩ := D
  exact ⟨⟨dx, by rw [upd_ne (ne_of hp hl (by intro z; cases z))]; exact hp⟩, ⟨_, upd_same, (hI.snoc hv).put hl⟩, ⟨ws, by rw [upd_ne ne.symm]; exact b1, b2.put hl⟩, ne⟩
theorem sh_off2 {H : Hp} {C p al aw : Addr} {A B : List (List Int)} {us : List V} {r : List Int} {v : V} (D : ShAt C H p al aw A B) (hv : IT H v r) (hl : H aw = some (.lst us)) (hI : Its H us B) : ShAt C (upd H aw (.lst (us ++ [v]))) p al aw A (B ++ [r]) := by
  obtain ⟨⟨dx, hp⟩, ⟨ws, b1, b2⟩, _, ne⟩ := D
  exact ⟨⟨dx, by rw [upd_ne (ne_of hp hl (by intro z; cases z))]; exact hp⟩, ⟨ws, by rw [upd_ne ne]; exact b1, b2.put hl⟩, ⟨_, upd_same, (hI.snoc hv).put hl⟩, ne⟩
theorem ok_takeS (FM : MethAt K C "take" "Sheet.take" s_Sheet_take ["self", "words"]) (U : ShTx K C) (T : Tx mg) (CL_Sheet : Cls K C) (O_read_vector : Ok P w K mg base "read_vector" 3 ["words"] (spRV K)) (O_Sheet_fits : MethOk P w K mg base C "fits" 1 ["self", "one"] (spFits C)) : MethOk P w K mg base C "take" 4 ["self", "words"] (spTakeS K C) := by
  refine FM.fnJ sc_Sheet_take (fun vs H Q E h => ?_) (fun cdv f A outer s H vs Q E hr h => ?_)
  · obtain ⟨p, al, aw, l, w, xs, A, B, rfl, _⟩ := h
    rfl
  · obtain ⟨p, al, aw, l, w, xs, A', B, rfl, D, hw, hx, h1, h8, wA, wB, hl, k⟩ := h
    have hz : (3000 : Nat) ≤ sizeLine := by rw [sizeLine_eq]; decide
    refine ⟨_, (jb_cons (js_set (i := 2) sc_Sheet_take.nd rfl (Or.inl rfl) (j_call O_read_vector (hr.mono (by omega)) rfl (ja_cons (j_slL K (jv 1) (jo_some j_int) jo_none) ja_nil)))
 (jb_cons (js_if (jt_w (jw_or (jt_isN (jv 2) j_non) (jw_or1 (jt_not (jt_tru K (j_meth O_Sheet_fits CL_Sheet (hr.mono (by omega)) (jv 0) (ja_cons (jv 2) ja_nil)))))))
 (jb_one (js_ret j_bl))
 jb_nil)
 (jb_cons (js_if (jt_w (jw_and (jt_eq (j_ixL K (jv 1) j_int) j_str) (jw_and1 (jt_eq (jc_len K rfl T.b_len (ja_cons (j_fld K (jv 0)) ja_nil)) j_int))))
 (jb_cons (js_expr (jm_append K (j_fld K (jv 0)) (ja_cons (jv 2) ja_nil)))
 (jb_one (js_ret j_bl)))
 jb_nil)
 (jb_cons (js_if (jt_eq (j_ixL K (jv 1) j_int) j_str)
 (jb_cons (js_expr (jm_append K (j_fld K (jv 0)) (ja_cons (jv 2) ja_nil)))
 (jb_one (js_ret j_bl)))
 jb_nil)
 (jb_one (js_ret j_bl)))))), ?_⟩
    refine ⟨_, rfl, _, rfl, l, _, rfl, hw, fun p1 hp1 => ?_⟩
    rw [List.map_cons, cut_tl]
    have s1 := (Same.refl H).upd (o := .lst ((xs.map figI).map V.str)) hp1
    have e1 : upd H p1 (.lst ((xs.map figI).map V.str)) p1 = some (.lst ((xs.map figI).map V.str)) := upd_same
    generalize upd H p1 (.lst ((xs.map figI).map V.str)) = H1 at s1 e1
    refine ⟨p1, xs, rfl, SqL.of e1, hx, h1, h8, fun v H2 hv s2 => ?_⟩
    have s2 := s1.trans s2
    obtain ⟨va, rfl, hva⟩ := hv
    have D2 := D.same s2
    obtain ⟨⟨dx, hp⟩, ⟨us, a1, a2⟩, ⟨ws, b1, b2⟩, ne⟩ := id D2
    refine ⟨_, rfl, rfl, _, rfl, ?_⟩
    rw [decide_eq_false (by intro z; cases z)]
    refine iteF ⟨_, rfl, p, dx, _, rfl, hp, sfl_fits _ _, _, rfl, p, al, aw, _, xs, A', B, rfl, D2, ⟨va, rfl, hva⟩, wA, wB, fun H3 s3 => ⟨_, rfl, iteF ?_⟩⟩
    have D3 := D2.same s3
    have s3' := s2.trans s3
    have hva3 := s3 _ _ hva
    obtain ⟨⟨dx3, hp3⟩, ⟨us3, a31, a32⟩, ⟨ws3, b31, b32⟩, _⟩ := id D3
    have hat : atI (V.str w :: (xs.map figI).map V.str) 0 = some (V.str w) := atI_nat (j := 0) rfl
    refine ⟨_, rfl, l, _, 0, _, rfl, rfl, s3'.seq hw, hat, rfl, _, rfl, ?_⟩
    rcases k with ⟨rfl, rfl, k⟩ | ⟨rfl, k⟩
    · rw [decide_eq_true (show V.str wL = V.str (Str.ofString "least") by with_unfolding_all rfl)]
      have hw0 : ws3 = [] := List.length_eq_zero_iff.mp b32.1
      subst hw0
      refine iteT ⟨_, rfl, p, C, dx3, _, _, rfl, hp3, U.cl, U.n2, sfl_w _ _, aw, [], rfl, .inl (SqL.of b31), rfl, _, rfl, iteT ?_⟩
      refine ⟨_, rfl, p, C, dx3, _, _, rfl, hp3, U.cl, U.n1, sfl_l _ _, .inl ⟨rfl, _, SqL.of a31⟩, _, rfl, al, us3, _, rfl, rfl, a31, by rw [a32.1]; omega, ?_⟩
      exact k _ (sh_off D3 ⟨va, rfl, hva3⟩ a31 a32) (s3'.off.set (by simp))
    · rw [decide_eq_false (show ¬ V.str wS = V.str (Str.ofString "least") by intro z; injection z with z; exact absurd (show (4 : Nat) = 5 from congrArg (fun t : Str => t.cps.size) z) (by decide))]
      refine iteF (iteF ⟨_, rfl, l, _, 0, _, rfl, rfl, s3'.seq hw, hat, rfl, _, rfl, ?_⟩)
      rw [decide_eq_true (show V.str wS = V.str (Str.ofString "step") by with_unfolding_all rfl)]
      refine iteT ⟨_, rfl, p, C, dx3, _, _, rfl, hp3, U.cl, U.n2, sfl_w _ _, .inl ⟨rfl, _, SqL.of b31⟩, _, rfl, aw, ws3, _, rfl, rfl, b31, by rw [b32.1]; omega, ?_⟩
      exact k _ (sh_off2 D3 ⟨va, rfl, hva3⟩ b31 b32) (s3'.off.set (by simp))
def spTakeAll (K : PySem.W.Frag) (C : Addr) : Sp := fun vs H Q _ => ∃ (p al aw l : Addr) (A B : List (List Int)) (n : Nat), vs = [.ref p, .ref l] ∧ ShAt C H p al aw [] [] ∧ H l = some (.lst ((lns A B).map V.str)) ∧ l ≠ al ∧ l ≠ aw ∧ Vw n A ∧ Vw n B ∧ 1 ≤ n ∧ n ≤ 8 ∧ A.length + B.length ≤ 100 ∧ ∀ H', ShAt C H' p al aw A B → Off [al, aw] H H' → Q .non H'
theorem sc_take_all : FnScope ["draft", "lines", "number", "line"] ["draft", "lines"] (defScope s_take_all) := ⟨rfl, rfl, rfl, by decide +kernel, rfl, by decide +kernel, by decide +kernel⟩
theorem lns_get {A B : List (List Int)} {i : Nat} {x : V} (h : ((lns A B).map V.str)[i]? = some x) : (∃ r, A[i]? = some r ∧ x = .str (ln wL r) ∧ i < A.length) ∨ (∃ r, B[i - A.length]? = some r ∧ x = .str (ln wS r) ∧ A.length ≤ i) := by
  rw [List.getElem?_map, lns] at h
  rcases Nat.lt_or_ge i A.length with hi | hi
  · rw [List.getElem?_append_left (by rw [List.length_map]; exact hi), List.getElem?_map, List.getElem?_eq_getElem hi] at h
    cases h
    exact .inl ⟨_, List.getElem?_eq_getElem hi, rfl, hi⟩
  · rw [List.getElem?_append_right (by rw [List.length_map]; exact hi), List.length_map, List.getElem?_map] at h
    rcases e : B[i - A.length]? with _ | r
    · rw [e] at h; cases h
    · rw [e] at h
      cases h
      exact .inr ⟨r, rfl, rfl, hi⟩
theorem ok_take_all (F : FunAt K mg "take_all" s_take_all ["draft", "lines"]) (T : Tx mg) (CL_Sheet : Cls K C) (O_Sheet_take : MethOk P w K mg base C "take" 4 ["self", "words"] (spTakeS K C)) : Ok P w K mg base "take_all" 5 ["draft", "lines"] (spTakeAll K C) := by
  refine F.okJ sc_take_all (fun vs H Q E h => ?_) (fun cdv f A outer s H vs Q E hr h => ?_)
  · obtain ⟨p, al, aw, l, A, B, n, rfl, _⟩ := h
    rfl
  · obtain ⟨p, al, aw, l, A', B, n, rfl, D, hL, la, lw, wA, wB, n1, n8, hl, k⟩ := h
    have hz : (300000 : Nat) ≤ sizeLine := by rw [sizeLine_eq]; decide
    refine ⟨_, (jb_one (js_for (ji_enum1 K rfl T.b_enumerate (ja_cons (jv 1) ja_nil)) (jg_tup K 2 (jgs_cons (jg_name (i := 2) sc_take_all.nd rfl (Or.inl rfl)) (jgs_cons (jg_name (i := 3) sc_take_all.nd rfl (Or.inl rfl)) jgs_nil)))
 (jb_one (js_if (jt_not (jt_tru K (j_meth O_Sheet_take CL_Sheet (hr.mono (by omega)) (jv 0) (ja_cons (jm_split K (jv 3) (ja_cons j_str ja_nil)) ja_nil))))
 (jb_one js_never)
 jb_nil)))), ?_⟩
    refine ⟨_, rfl, false, l, rfl, ⟨_, SqL.of hL⟩, ?_⟩
    refine for_enum1 (K := K) (k := false) (a := l) (xs := (lns A' B).map V.str) (fun i σ H' => ∃ o2 o3, σ = [some (.ref p), some (.ref l), o2, o3] ∧ ShAt C H' p al aw (A'.take i) (B.take (i - A'.length)) ∧ Off [al, aw] H H') ⟨_, _, rfl, by simpa using D, Off.refl _ _⟩ (fun i σ H' _ ⟨_, _, _, _, o⟩ => SqL.of (o _ _ (by simp [la, lw]) hL)) ?_ ?_
    · rintro i x σ H1 q hx ⟨o2, o3, rfl, D1, off1⟩ hq
      have s2 := (Same.refl H1).upd (o := .tup [V.int (1 + i), x]) hq
      have D2 := D1.same s2
      have off2 := off1.trans s2.off
      have eq2 : upd H1 q (.tup [V.int (1 + i), x]) q = some (.tup [V.int (1 + i), x]) := upd_same
      generalize upd H1 q (.tup [V.int (1 + i), x]) = H2 at D2 off2 eq2
      refine ⟨q, _, rfl, SqT.of eq2, rfl, _, [x], rfl, x, [], rfl, rfl, ?_⟩
      dsimp only [gName]
      have hil : i < A'.length + B.length := by have := (List.getElem?_eq_some_iff.mp hx).1; simpa [lns] using this
      obtain ⟨⟨dx, hp⟩, _, _, _⟩ := id D2
      have key : ∀ (w' : Str) (r : List Int), x = .str (ln w' r) → w'.length ≤ 60 → 32 ∉ w'.cps.toList → r.length = n → Sz r → ((w' = wL ∧ B.take (i - A'.length) = [] ∧ A'.take (i + 1) = A'.take i ++ [r] ∧ B.take (i + 1 - A'.length) = []) ∨ (w' = wS ∧ A'.take (i + 1) = A'.take i ∧ B.take (i + 1 - A'.length) = B.take (i - A'.length) ++ [r])) →
          ∃ (w' : Str) (r : List Int), x = .str (ln w' r) ∧ w'.length ≤ 60 ∧ 32 ∉ w'.cps.toList ∧ r.length = n ∧ Sz r ∧ ((w' = wL ∧ B.take (i - A'.length) = [] ∧ A'.take (i + 1) = A'.take i ++ [r] ∧ B.take (i + 1 - A'.length) = []) ∨ (w' = wS ∧ A'.take (i + 1) = A'.take i ∧ B.take (i + 1 - A'.length) = B.take (i - A'.length) ++ [r])) := fun w' r a b c d e f => ⟨w', r, a, b, c, d, e, f⟩
      obtain ⟨w', r, rfl, h60, h32, hrn, hrs, hcase⟩ : ∃ (w' : Str) (r : List Int), x = .str (ln w' r) ∧ w'.length ≤ 60 ∧ 32 ∉ w'.cps.toList ∧ r.length = n ∧ Sz r ∧ ((w' = wL ∧ B.take (i - A'.length) = [] ∧ A'.take (i + 1) = A'.take i ++ [r] ∧ B.take (i + 1 - A'.length) = []) ∨ (w' = wS ∧ A'.take (i + 1) = A'.take i ∧ B.take (i + 1 - A'.length) = B.take (i - A'.length) ++ [r])) := by
        rcases lns_get hx with ⟨r, hr, rfl, hi⟩ | ⟨r, hr, rfl, hi⟩
        · obtain ⟨h1, h2⟩ := wA r (List.mem_of_getElem? hr)
          refine key _ r rfl (by decide) (by decide) h1 h2 (.inl ⟨rfl, by rw [show i - A'.length = 0 by omega, List.take_zero], ?_, by rw [show i + 1 - A'.length = 0 by omega, List.take_zero]⟩)
          rw [List.take_add_one, hr]
          rfl
        · obtain ⟨h1, h2⟩ := wB r (List.mem_of_getElem? hr)
          refine key _ r rfl (by decide) (by decide) h1 h2 (.inr ⟨rfl, by rw [List.take_of_length_le (by omega), List.take_of_length_le (by omega)], ?_⟩)
          rw [show i + 1 - A'.length = i - A'.length + 1 by omega, List.take_add_one, hr]
          rfl
      have hll := ln_len h60 hrs (by omega)
      refine ⟨_, rfl, p, dx, _, rfl, hp, sfl_take _ _, _, rfl, rfl, _, bk, rfl, rfl, by decide, by omega, fun p3 hp3 => ?_⟩
      rw [ln_split h32]
      have s3 := (Same.refl H2).upd (o := .lst ((w' :: r.map figI).map V.str)) hp3
      have D3 := D2.same s3
      have off3 := off2.trans s3.off
      refine ⟨p, al, aw, p3, w', r, _, _, rfl, D3, SqL.of upd_same, hrs, by omega, by omega, fun t ht => by rw [hrn]; exact (wA t (List.mem_of_mem_take ht)).1, fun t ht => by rw [hrn]; exact (wB t (List.mem_of_mem_take ht)).1, by rw [List.length_take, List.length_take]; omega, ?_⟩
      rcases hcase with ⟨rfl, c1, c2, c3⟩ | ⟨rfl, c1, c2⟩
      · refine .inl ⟨rfl, c1, fun H4 D4 off4 => ⟨_, rfl, iteF ⟨_, _, rfl, ?_, off3.trans off4⟩⟩⟩
        rw [c2, c3]
        rw [c1] at D4
        exact D4
      · refine .inr ⟨rfl, fun H4 D4 off4 => ⟨_, rfl, iteF ⟨_, _, rfl, ?_, off3.trans off4⟩⟩⟩
        rw [c1, c2]
        exact D4
    · rintro σ H1 ⟨o2, o3, rfl, D1, off1⟩
      rw [show ((lns A' B).map V.str).length = A'.length + B.length by simp [lns], List.take_of_length_le (by omega), List.take_of_length_le (by omega)] at D1
      exact k _ D1 off1
def spReadP : Sp := fun vs H Q _ => ∃ (A B : List (List Int)) (n : Nat), vs = [.str (pt A B)] ∧ Vw n A ∧ Vw n B ∧ 1 ≤ n ∧ n ≤ 8 ∧ A.length + B.length ≤ 100 ∧ ∀ q u v H', H' q = some (.tup [u, v]) → VV2 H' u A → VV2 H' v B → Same H H' → Q (.ref q) H'
theorem sc_read_paper : FnScope ["text", "sheet"] ["text"] (defScope s_read_paper) := ⟨rfl, rfl, rfl, by decide +kernel, rfl, by decide +kernel, by decide +kernel⟩
theorem ok_read_paper (F : FunAt K mg "read_paper" s_read_paper ["text"]) (T : Tx mg) (U : ShTx K C) (O_Sheet : MakeOk P w K mg base "Sheet" C 1 ["self"] (spSInit C)) (O_take_all : Ok P w K mg base "take_all" 5 ["draft", "lines"] (spTakeAll K C)) : Ok P w K mg base "read_paper" 6 ["text"] spReadP := by
  refine F.okJ sc_read_paper (fun vs H Q E h => ?_) (fun cdv f A outer s H vs Q E hr h => ?_)
  · obtain ⟨A, B, n, rfl, _⟩ := h
    rfl
  · obtain ⟨A', B, n, rfl, wA, wB, n1, n8, hl, k⟩ := h
    have hz : (300000 : Nat) ≤ sizeLine := by rw [sizeLine_eq]; decide
    refine ⟨_, (jb_cons (js_set (i := 1) sc_read_paper.nd rfl (Or.inl rfl) (j_make0 O_Sheet (hr.mono (by omega)) rfl))
 (jb_cons (js_if (jt_ne (jv 0) j_str)
 (jb_one (js_expr (j_call O_take_all (hr.mono (by omega)) rfl (ja_cons (jv 1) (ja_cons (jm_split K (jv 0) (ja_cons j_str ja_nil)) ja_nil)))))
 jb_nil)
 (jb_one (js_ret (j_tup (ja_cons (jc_tuple K rfl T.b_tuple (ja_cons (j_fld K (jv 1)) ja_nil)) (ja_cons (jc_tuple K rfl T.b_tuple (ja_cons (j_fld K (jv 1)) ja_nil)) ja_nil))))))), ?_⟩
    refine fun x dx hx hdx hne => ?_
    have hx' : upd H dx (.own x) x = none := by rw [upd_ne hne.symm]; exact hx
    have s0 : Same H (upd (upd H dx (.own x)) x (.ins C dx [])) := ((Same.refl H).upd hdx).upd hx'
    refine ⟨x, dx, rfl, upd_same, fun al aw H1 hal haw D1 kp => ⟨rfl, ?_⟩⟩
    have hal' : H al = none := s0.free hal
    have haw' : H aw = none := s0.free haw
    have s1 : Same H H1 := fun b o e => kp b o (s0 b o e) (ne_of_none e hx)
    dsimp only [gName]
    refine seq_via (fun σ H' => σ = [some (.str (pt A' B)), some (.ref x)] ∧ ShAt C H' x al aw A' B ∧ Same H H') ?fin fun fin => ?_
    case fin =>
      rintro σ H2 ⟨rfl, D2, s2⟩
      obtain ⟨⟨dx2, hp2⟩, ⟨us, a1, a2⟩, ⟨ws, b1, b2⟩, _⟩ := id D2
      refine ⟨_, rfl, x, C, dx2, _, _, rfl, hp2, U.cl, U.n1, sfl_l _ _, al, us, rfl, .inl ⟨SqL.of a1, fun q1 hq1 => ?_⟩⟩
      have s3 := (Same.refl H2).upd (o := .tup us) hq1
      have e3 : upd H2 q1 (.tup us) q1 = some (.tup us) := upd_same
      generalize upd H2 q1 (.tup us) = H3 at s3 e3
      refine ⟨_, rfl, x, C, dx2, _, _, rfl, s3 _ _ hp2, U.cl, U.n2, sfl_w _ _, aw, ws, rfl, .inl ⟨SqL.of (s3 _ _ b1), fun q2 hq2 => ?_⟩⟩
      have s4 := (Same.refl H3).upd (o := .tup ws) hq2
      have e4 : upd H3 q2 (.tup ws) q2 = some (.tup ws) := upd_same
      generalize upd H3 q2 (.tup ws) = H4 at s4 e4
      refine ⟨by show 2 ≤ sizeLine; omega, fun q hq => ?_⟩
      have s5 := (Same.refl H4).upd (o := .tup [.ref q1, .ref q2]) hq
      have s35 := (s3.trans s4).trans s5
      exact k q _ _ _ upd_same ⟨q1, us, rfl, s5 _ _ (s4 _ _ e3), a2.same s35⟩ ⟨q2, ws, rfl, s5 _ _ e4, b2.same s35⟩ (s2.trans s35)
    have he := pt_empty wA wB n1
    refine ⟨_, rfl, rfl, _, rfl, ite2 (fun e => ?_) (fun e => ?_)⟩
    · have hne' : lns A' B ≠ [] := fun z => by
        have h0 := he.mpr z
        rw [show pt A' B = Str.ofString "" from Str.ext' (Array.eq_empty_of_size_eq_zero h0), decide_eq_true rfl] at e
        cases e
      have hp := pt_len wA wB n8 hl
      refine ⟨_, rfl, _, rfl, rfl, _, lf, rfl, rfl, by decide, by omega, fun p3 hp3 => ?_⟩
      rw [pt_split hne']
      have s3 := (Same.refl H1).upd (o := .lst ((lns A' B).map V.str)) hp3
      obtain ⟨_, ⟨us, a1, _⟩, ⟨ws, b1, _⟩, _⟩ := id D1
      refine ⟨x, al, aw, p3, A', B, n, rfl, D1.same s3, upd_same, (ne_of_none a1 hp3).symm, (ne_of_none b1 hp3).symm, wA, wB, n1, n8, hl, fun H4 D4 off4 => ?_⟩
      refine fin _ _ ⟨rfl, D4, fun b o e => off4 b o ?_ (s3 _ _ (s1 _ _ e))⟩
      simp only [List.mem_cons, List.not_mem_nil, or_false, not_or]
      exact ⟨ne_of_none e hal', ne_of_none e haw'⟩
    · have hL : lns A' B = [] := he.mp (by
        have e' : decide (V.str (pt A' B) = V.str (Str.ofString "")) = true := by simpa using e
        injection of_decide_eq_true e' with e2
        rw [e2]
        rfl)
      have hA0 : A' = [] := by
        have := congrArg List.length hL
        simp [lns] at this
        exact this.1
      have hB0 : B = [] := by
        have := congrArg List.length hL
        simp [lns] at this
        exact this.2
      subst hA0 hB0
      exact fin _ _ ⟨rfl, D1, s1⟩
end
end K47
set_option Elab.async false
set_option linter.all false
set_option maxRecDepth 100000
set_option maxHeartbeats 2000000
namespace L2
open PySem PySem.Spec PyProof.Rows
section
open PySem.SeqAt
open PySem.AutoSeq1 (wpAny_loadPart')
open PySem.MeetsSeq PySem.MeetsSeq2 PySem.MeetsSeq3
end
section
variable {X : Cx} {pins : List (Addr × Obj)} {σ : St} {H : Hp} {s : Shared}
end
section
variable {prog : Program} {w : World} {A : Around} {I l S : Addr} {vs : List Value} {kw : List (Str × Value)} {R : Result → Shared → Prop} {h₀ : Heap} {s : Shared}
end
section
variable {prog : Program} {w : World} {A : Around} {E : Value → Shared → Prop} {s : Shared}
end
section
variable {X : Cx} {e : Expr} {t : TA} {p pos kp np : Pos} {nk : Nat}
end
section
theorem slicePick_rev (xs : Array Value) : slicePick xs none none (some (-1)) = xs.toList.reverse.toArray := by
  rw [← pick_rev]
  unfold slicePick
  have e : sliceRange ((xs.size : Int) - 1) (-1) (-1) = (List.range xs.size).map fun (k : Nat) => (((xs.size : Int) - 1) + (k : Int) * (-1)).toNat := by
    unfold sliceRange
    have : (if (-1 : Int) > 0 then (if ((xs.size : Int) - 1) < -1 then ((-1 : Int) - ((xs.size : Int) - 1) + -1 - 1) / -1 else 0) else (if ((xs.size : Int) - 1) > -1 then (((xs.size : Int) - 1) - -1 - -1 - 1) / (- -1) else 0)).toNat = xs.size := by
      rw [if_neg (by decide)]
      split
      · rw [show (- -1 : Int) = 1 from rfl, Int.ediv_one]; omega
      · omega
    dsimp only
    rw [this]
    refine List.map_congr_left fun k _ => ?_
    rw [Int.mul_comm]
  show ((sliceRange ((xs.size : Int) - 1) (-1) (-1)).filterMap (xs[·]?)).toArray = _
  rw [e, List.filterMap_map]
  rfl
variable {X : Cx} {e : Expr} {te : TE} {pos p2 : Pos}
def tRevL (K : PySem.W.Frag) (te ts : TE) : TE := fun σ H Q => te σ H fun x H1 => ts σ H1 fun y H2 => y = .int (-1) ∧ ∃ a xs, x = .ref a ∧ SqL K H2 a xs ∧ ∀ p, H2 p = none → Q (.ref p) (upd H2 p (.lst xs.reverse))
theorem j_revL (K : PySem.W.Frag) {st : Expr} {ts : TE} (he : JE X e te) (hs : JE X st ts) (hK : X.K = K := by rfl) : JE X (.Subscript e (.Slice none none (some st) p2) pos) (tRevL K te ts) := by
  subst hK
  refine ⟨fun pins s σ H Q I h => ?_⟩
  refine Subscript_ (thn (he.h pins s σ H _ I h) fun v s1 ⟨x, H1, I1, r1, q1⟩ => ?_)
  refine wpAny_Slice ?_
  rw [evalPart_none]
  refine wpAny_pure ?_
  refine wpAny_pure ?_
  rw [evalPart_some]
  refine thn (hs.h pins s1 σ H1 _ I1 q1) fun u s3 ⟨y, H3, I3, r3, q3⟩ => ?_
  obtain ⟨rfl, a, xs, rfl, hx, q⟩ := q3
  obtain ⟨tk, rfl⟩ := r3
  cases r1
  have I4 : Inv X pins σ H3 { s3 with heap := s3.heap.push { cls := .type "slice", data := .fields #[.none, .none, .int (-1) tk] } } := I3.kept (t' := s3.toks) fun b ob q => Heap.get?_push_of_some _ q
  obtain ⟨its, r, ht, hz⟩ := I4.list hx
  have hlen := r.length
  show wpAny (model X.prog X.w) X.A (subscriptTail e (.Slice none none (some st) p2) (.ref a) (.ref s3.heap.objs.size)) (EP X pins σ Q) X.xe { s3 with heap := s3.heap.push { cls := .type "slice", data := .fields #[.none, .none, .int (-1) tk] } }
  refine tail_any (ops := [.ref a, .ref s3.heap.objs.size]) ht.isList.typeIs slot_list_getitem.lookup ?_ (by with_unfolding_all rfl)
  refine wpAny_getItem_list_slice (st := some (-1)) ht.isList (Heap.IsSliceOf.new ..) .none .none (.int _ _) (by decide) ?_ (by rw [List.size_toArray]; omega)
  rw [slicePick_rev]
  refine ⟨.ref _, _, I4.laid (t' := s3.toks) (o := .lst xs.reverse) (fun b ob q => Heap.get?_push_of_some _ q) (Nat.le_refl _) ?_, rfl, q _ (I4.hok.fresh (Nat.le_refl _))⟩
  exact ⟨by rw [List.length_reverse]; exact hz, _, 0, r.reverse, Heap.get?_push_size _ rfl⟩
end
end L2
set_option Elab.async false
set_option linter.all false
set_option maxRecDepth 100000
set_option maxHeartbeats 4000000
namespace K47
open PySem PySem.Spec PyProof.Rows L2
def pk (b : Addr) (l t k : Int) : List (Key × V) := [(.inr "own", .ref b), (.inr "left", .int l), (.inr "seed", .int t), (.inr "many", .int k)]
section
variable (b : Addr) (l t k z : Int)
theorem pk_own : valV (pk b l t k) (.inr (Str.ofString "own")) = some (.ref b) := by with_unfolding_all rfl
theorem pk_left : valV (pk b l t k) (.inr (Str.ofString "left")) = some (.int l) := by with_unfolding_all rfl
theorem pk_seed : valV (pk b l t k) (.inr (Str.ofString "seed")) = some (.int t) := by with_unfolding_all rfl
theorem pk_many : valV (pk b l t k) (.inr (Str.ofString "many")) = some (.int k) := by with_unfolding_all rfl
theorem pk_pleft : putK (pk b l t k) (.inr (Str.ofString "left")) (.int z) = pk b z t k := by with_unfolding_all rfl
theorem pk_pseed : putK (pk b l t k) (.inr (Str.ofString "seed")) (.int z) = pk b l z k := by with_unfolding_all rfl
theorem pk_pmany : putK (pk b l t k) (.inr (Str.ofString "many")) (.int z) = pk b l t z := by with_unfolding_all rfl
theorem pk_make : mergeK [] [(.inr (Str.ofString "own"), .ref b), (.inr (Str.ofString "left"), .int l), (.inr (Str.ofString "seed"), .int t), (.inr (Str.ofString "many"), .int k)] = pk b l t k := by with_unfolding_all rfl
end
structure PotAt (H : Hp) (a b : Addr) : Prop where
  ne : a ≠ b
  ex : ∃ (cs : List Int) (l t k : Int), H a = some (.dK (pk b l t k)) ∧ H b = some (.lst (cs.map V.int))
theorem PotAt.same {H H' : Hp} {a b : Addr} (h : PotAt H a b) (s : Same H H') : PotAt H' a b := by
  obtain ⟨ne, cs, l, t, k, h1, h2⟩ := h
  exact ⟨ne, cs, l, t, k, s _ _ h1, s _ _ h2⟩
theorem potne {H : Hp} {a b : Addr} (h : PotAt H a b) {c : Addr} {xs : List V} (hc : H c = some (.tup xs)) : c ∉ [a, b] := by
  obtain ⟨_, cs, l, t, k, h1, h2⟩ := h
  simp only [List.mem_cons, List.not_mem_nil, or_false, not_or]
  exact ⟨ne_of hc h1 (by intro z; cases z), ne_of hc h2 (by intro z; cases z)⟩
theorem potfree {H : Hp} {a b : Addr} (h : PotAt H a b) {c : Addr} (hc : H c = none) : c ∉ [a, b] := by
  obtain ⟨_, cs, l, t, k, h1, h2⟩ := h
  simp only [List.mem_cons, List.not_mem_nil, or_false, not_or]
  exact ⟨(ne_of_none h1 hc).symm, (ne_of_none h2 hc).symm⟩
theorem pot_put {H : Hp} {a b : Addr} (h : PotAt H a b) {c : Addr} {o : HO} (hc : c ∉ [a, b]) : PotAt (upd H c o) a b := by
  simp only [List.mem_cons, List.not_mem_nil, or_false, not_or] at hc
  obtain ⟨ne, cs, l, t, k, e1, e2⟩ := h
  exact ⟨ne, cs, l, t, k, by rw [upd_ne (Ne.symm hc.1)]; exact e1, by rw [upd_ne (Ne.symm hc.2)]; exact e2⟩
theorem IT.pot {H H' : Hp} {v : V} {ns : List Int} {a b : Addr} (h : IT H v ns) (hP : PotAt H a b) (o : Off [a, b] H H') : IT H' v ns := by
  obtain ⟨c, e, q⟩ := h
  exact ⟨c, e, o c _ (potne hP q) q⟩
theorem Its.pot {H H' : Hp} {vs : List V} {rss : List (List Int)} {a b : Addr} (h : Its H vs rss) (hP : PotAt H a b) (o : Off [a, b] H H') : Its H' vs rss := ⟨h.1, fun i v e => let ⟨r, e1, e2⟩ := h.2 i v e; ⟨r, e1, IT.pot e2 hP o⟩⟩
theorem off_fr {l : List Addr} {H H' : Hp} {p : Addr} {o : HO} (s : Off l H H') (hp : H p = none) : Off l H (upd H' p o) := fun b u hb e => by
  rw [upd_ne (ne_of_none e hp)]; exact s b u hb e
theorem off_free {H H' : Hp} {a b : Addr} {p : Addr} (o : Off [a, b] H H') (hP : PotAt H' a b) (hp : H' p = none) : H p = none := by
  rcases e : H p with _ | u
  · rfl
  · have := o _ _ (potfree hP hp) e
    rw [hp] at this
    cases this
section
variable {P : Program} {w : World} {K : PySem.W.Frag} {mg : Str → Option Value} {base : Heap}
def spPot (K : PySem.W.Frag) : Sp := fun vs H Q _ => ∃ (a : Addr) (ns : List Int), vs = [.ref a] ∧ SqL K H a (ns.map V.int) ∧ ns.length ≤ 1000 ∧ ∀ p b H', H p = none → H b = none → PotAt H' p b → Same H H' → Q (.ref p) H'
theorem sc__law_pot : FnScope ["_law_script", "_law_seed", "_law_own", "_law_cell"] ["_law_script"] (defScope s__law_pot) := ⟨rfl, rfl, rfl, by decide +kernel, rfl, by decide +kernel, by decide +kernel⟩
theorem ok_pot (F : FunAt K mg "_law_pot" s__law_pot ["_law_script"]) (T : Tx mg) : Ok P w K mg base "_law_pot" 1 ["_law_script"] (spPot K) := by
  refine F.okJ sc__law_pot (fun vs H Q E h => ?_) (fun cdv f A outer s H vs Q E hr h => ?_)
  · obtain ⟨a, ns, rfl, _⟩ := h
    rfl
  · obtain ⟨a, ns, rfl, hS, hl, k⟩ := h
    have hz : (3000 : Nat) ≤ sizeLine := by rw [sizeLine_eq]; decide
    refine ⟨_, (jb_cons (js_set (i := 1) sc__law_pot.nd rfl (Or.inl rfl) j_int)
 (jb_cons (js_set (i := 2) sc__law_pot.nd rfl (Or.inl rfl) (j_lst ja_nil))
 (jb_cons (js_for (ji_list K (jv 0)) (jg_name (i := 3) sc__law_pot.nd rfl (Or.inl rfl))
 (jb_cons (js_set (i := 1) sc__law_pot.nd rfl (Or.inl rfl) (j_mod (j_add (j_add (j_mul (jv 1) j_int) (j_mod (jv 3) j_int)) j_int) j_int))
 (jb_one (js_if (jt_ge (jv 3) (j_pow j_int j_int))
 (jb_one (js_expr (jm_append K (jv 2) (ja_cons (jv 3) ja_nil))))
 jb_nil))))
 (jb_one (js_ret (j_disp (jp_cons j_str (jv 2) (jp_cons j_str j_int (jp_cons j_str (jv 1) (jp_cons j_str j_int jp_nil)))))))))), ?_⟩
    refine ⟨Nat.zero_le _, fun b hb => ?_⟩
    have s0 := (Same.refl H).upd (o := .lst []) hb
    dsimp only [gName]
    refine ⟨_, rfl, a, rfl, ⟨_, s0.seq hS⟩, ?_⟩
    refine for_list (K := K) (a := a) (xs := ns.map V.int) (fun i σ H2 => ∃ (t : Int) (cs : List Int) (v : Option V), σ = [some (.ref a), some (.int t), some (.ref b), v] ∧ cs.length ≤ i ∧ H2 = upd H b (.lst (cs.map V.int))) ⟨17, [], none, rfl, Nat.le_refl _, rfl⟩
      (fun i σ H2 _ ⟨_, _, _, _, _, e⟩ => by rw [e]; exact ((Same.refl H).upd hb).seq hS) ?_ ?_
    · rintro i x σ H2 hx ⟨t, cs, v, rfl, hcs, rfl⟩
      have hi : i < ns.length := by have := (List.getElem?_eq_some_iff.mp hx).1; simpa using this
      obtain ⟨z, _, rfl⟩ := get_int hx
      dsimp only [gName]
      refine ⟨_, rfl, _, _, rfl, rfl, .inr ⟨by decide, by decide⟩, _, rfl, _, _, rfl, rfl, (show (0 : Int) < 2147483587 by decide), _, _, rfl, rfl, _, _, rfl, rfl, _, _, rfl, rfl, (show (0 : Int) < 2305843009213693951 by decide), ?_⟩
      dsimp only [gName]
      refine ⟨_, rfl, _, _, rfl, rfl, ⟨by decide, by decide, by decide⟩, _, _, rfl, rfl, _, rfl, ite2 (fun e => ?_) (fun e => ?_)⟩
      · refine ⟨_, rfl, .inl ⟨rfl, _, SqL.of upd_same⟩, _, rfl, b, _, _, rfl, rfl, upd_same, by rw [List.length_map]; omega, ?_⟩
        exact ⟨_, cs ++ [z], _, rfl, by rw [List.length_append]; simpa using hcs, by rw [upd_upd, List.map_append]; rfl⟩
      · exact ⟨_, cs, _, rfl, by omega, rfl⟩
    · rintro σ H2 ⟨t, cs, v, rfl, hcs, rfl⟩
      refine fun p hp => ⟨_, rfl, _, rfl, upd_same, [(.inr (Str.ofString "own"), .ref b), (.inr (Str.ofString "left"), .int 0), (.inr (Str.ofString "seed"), .int t), (.inr (Str.ofString "many"), .int 0)], rfl, by show 4 ≤ 15; decide, ?_⟩
      rw [pk_make, upd_upd]
      have pb : b ≠ p := ne_of_none (o := .lst (cs.map V.int)) upd_same hp
      have s1 := (Same.refl H).upd (o := .lst (cs.map V.int)) hb
      exact k p b _ (s1.free hp) hb ⟨pb.symm, cs, 0, t, 0, upd_same, by rw [upd_ne pb]; exact upd_same⟩ (s1.upd hp)
def spNext : Sp := fun vs H Q _ => ∃ (a b : Addr) (m : Int), vs = [.ref a, .int m] ∧ PotAt H a b ∧ 0 < m ∧ m < 10 ^ 100 ∧ ∀ r H', 0 ≤ r → r < m → PotAt H' a b → Off [a, b] H H' → Q (.int r) H'
theorem sc__law_next : FnScope ["_law_pot_here", "_law_many", "_law_drawn", "_law_mixed"] ["_law_pot_here", "_law_many"] (defScope s__law_next) := ⟨rfl, rfl, rfl, by decide +kernel, rfl, by decide +kernel, by decide +kernel⟩
theorem ok_next (F : FunAt K mg "_law_next" s__law_next ["_law_pot_here", "_law_many"]) (T : Tx mg) : Ok P w K mg base "_law_next" 1 ["_law_pot_here", "_law_many"] spNext := by
  refine F.okJ sc__law_next (fun vs H Q E h => ?_) (fun cdv f A outer s H vs Q E hr h => ?_)
  · obtain ⟨a, b, m, rfl, _⟩ := h
    rfl
  · obtain ⟨a, b, m, rfl, ⟨ne, cs, l, t, k, ha, hb⟩, hm0, hm1, kk⟩ := h
    have hu := hr.u60
    have hz : (3000 : Nat) ≤ sizeLine := by rw [sizeLine_eq]; decide
    refine ⟨_, (jb_cons (js_if (jt_w (jw_and (jt_eq (j_dget hu (jv 0) j_str) j_int) (jw_and1 (jt_neK K hu (j_dget hu (jv 0) j_str) (j_lst ja_nil)))))
 (jb_one (js_dput hu (jv 0) j_str (jm_popAt K (j_dget hu (jv 0) j_str) (ja_cons j_int ja_nil))))
 jb_nil)
 (jb_cons (js_if (jt_gt (j_dget hu (jv 0) j_str) j_int)
 (jb_cons (js_set (i := 2) sc__law_next.nd rfl (Or.inl rfl) (j_mod (j_dget hu (jv 0) j_str) (jv 1)))
 (jb_cons (js_dput hu (jv 0) j_str (j_fdivH (j_dget hu (jv 0) j_str) (jv 1)))
 (jb_one (js_ret (jv 2)))))
 jb_nil)
 (jb_cons (js_dput hu (jv 0) j_str (j_add (j_dget hu (jv 0) j_str) j_int))
 (jb_cons (js_set (i := 3) sc__law_next.nd rfl (Or.inl rfl) (j_mod (j_mul (j_add (j_dget hu (jv 0) j_str) (j_mul (j_dget hu (jv 0) j_str) j_int)) j_int) j_int))
 (jb_cons (js_dput hu (jv 0) j_str (j_mod (j_mul (jv 3) (j_add (j_mod (jv 3) j_int) j_int)) j_int))
 (jb_one (js_ret (j_mod (j_fdiv (j_dget hu (jv 0) j_str) j_int) (jv 1))))))))), ?_⟩
    have gL : ∀ {H : Hp} {b : Addr} {l t k : Int}, H a = some (.dK (pk b l t k)) → DGet H a (.str (Str.ofString "left")) (some (.int l)) := fun {_ b l t k} e => by rw [← pk_left b l t k]; exact DGet.k (k := .inr (Str.ofString "left")) e
    have gO : ∀ {H : Hp} {b : Addr} {l t k : Int}, H a = some (.dK (pk b l t k)) → DGet H a (.str (Str.ofString "own")) (some (.ref b)) := fun {_ b l t k} e => by rw [← pk_own b l t k]; exact DGet.k (k := .inr (Str.ofString "own")) e
    have gS : ∀ {H : Hp} {b : Addr} {l t k : Int}, H a = some (.dK (pk b l t k)) → DGet H a (.str (Str.ofString "seed")) (some (.int t)) := fun {_ b l t k} e => by rw [← pk_seed b l t k]; exact DGet.k (k := .inr (Str.ofString "seed")) e
    have gM : ∀ {H : Hp} {b : Addr} {l t k : Int}, H a = some (.dK (pk b l t k)) → DGet H a (.str (Str.ofString "many")) (some (.int k)) := fun {_ b l t k} e => by rw [← pk_many b l t k]; exact DGet.k (k := .inr (Str.ofString "many")) e
    have pL : ∀ {H : Hp} {b : Addr} {l t k z : Int}, H a = some (.dK (pk b l t k)) → DPut H a (.str (Str.ofString "left")) (.int z) (upd H a (.dK (pk b z t k))) := fun {_ b l t k z} e => by rw [← pk_pleft b l t k z]; exact DPut.k (k := .inr (Str.ofString "left")) e (by show 4 < sizeLine; omega)
    have pS : ∀ {H : Hp} {b : Addr} {l t k z : Int}, H a = some (.dK (pk b l t k)) → DPut H a (.str (Str.ofString "seed")) (.int z) (upd H a (.dK (pk b l z k))) := fun {_ b l t k z} e => by rw [← pk_pseed b l t k z]; exact DPut.k (k := .inr (Str.ofString "seed")) e (by show 4 < sizeLine; omega)
    have pM : ∀ {H : Hp} {b : Addr} {l t k z : Int}, H a = some (.dK (pk b l t k)) → DPut H a (.str (Str.ofString "many")) (.int z) (upd H a (.dK (pk b l t z))) := fun {_ b l t k z} e => by rw [← pk_pmany b l t k z]; exact DPut.k (k := .inr (Str.ofString "many")) e (by show 4 < sizeLine; omega)
    refine seq_via (fun σ H' => σ = [some (.ref a), some (.int m), none, none] ∧ Off [a, b] H H' ∧ ∃ (cs : List Int) (l : Int), H' a = some (.dK (pk b l t k)) ∧ H' b = some (.lst (cs.map V.int))) ?fin fun fin => ?_
    case fin =>
      clear ha hb
      rintro σ H1 ⟨rfl, off1, cs, l, ha, hb⟩
      refine ⟨_, rfl, a, _, rfl, gL ha, _, _, rfl, rfl, _, rfl, ite2 (fun e => ?_) (fun e => ?_)⟩
      · refine ⟨_, rfl, a, _, rfl, gL ha, _, rfl, _, _, rfl, rfl, hm0, ?_⟩
        dsimp only [gName]
        refine ⟨_, rfl, a, _, rfl, gL ha, _, rfl, _, _, rfl, rfl, ⟨hm0, hm1⟩, _, rfl, a, _, rfl, pL ha, ?_⟩
        refine ⟨_, rfl, kk _ _ (Int.emod_nonneg _ (by omega)) (Int.emod_lt_of_pos _ hm0) ⟨ne, cs, _, _, _, upd_same, by rw [upd_ne ne.symm]; exact hb⟩ (off1.set (by simp))⟩
      · refine ⟨_, rfl, a, _, rfl, gM ha, _, _, rfl, rfl, _, rfl, a, _, rfl, pM ha, ?_⟩
        have hb1 : upd H1 a (.dK (pk b l t (k + 1))) b = some (.lst (cs.map V.int)) := by rw [upd_ne ne.symm]; exact hb
        have ha1 : upd H1 a (.dK (pk b l t (k + 1))) a = some (.dK (pk b l t (k + 1))) := upd_same
        have off2 : Off [a, b] H (upd H1 a (.dK (pk b l t (k + 1)))) := off1.set (by simp)
        generalize upd H1 a (.dK (pk b l t (k + 1))) = H2 at ha1 hb1 off2
        refine ⟨_, rfl, a, _, rfl, gS ha1, _, rfl, a, _, rfl, gM ha1, _, _, rfl, rfl, .inr ⟨by decide, by decide⟩, _, _, rfl, rfl, _, _, rfl, rfl, .inr ⟨by decide, by decide⟩, _, _, rfl, rfl, (show (0 : Int) < 2305843009213693951 by decide), ?_⟩
        generalize hx : (t + (k + 1) * 104729) * 48271 % 2305843009213693951 = x
        have x0 : 0 ≤ x := by rw [← hx]; exact Int.emod_nonneg _ (by decide)
        have x1 : x < 2305843009213693951 := by rw [← hx]; exact Int.emod_lt_of_pos _ (by decide)
        dsimp only [gName]
        refine ⟨_, rfl, _, rfl, _, _, rfl, rfl, (show (0 : Int) < 1009 by decide), _, _, rfl, rfl, _, _, rfl, rfl, .inl ⟨by omega, by omega⟩, _, _, rfl, rfl, (show (0 : Int) < 2305843009213693951 by decide), _, rfl, a, _, rfl, pS ha1, ?_⟩
        refine ⟨_, rfl, a, _, rfl, gS upd_same, _, _, rfl, rfl, ⟨by decide, by decide⟩, _, rfl, _, _, rfl, rfl, hm0, ?_⟩
        exact kk _ _ (Int.emod_nonneg _ (by omega)) (Int.emod_lt_of_pos _ hm0) ⟨ne, cs, _, _, _, upd_same, by rw [upd_ne ne.symm]; exact hb1⟩ (off2.set (by simp))
    refine ⟨_, rfl, a, _, rfl, gL ha, rfl, _, rfl, ite2 (fun e => ?_) (fun e => iteF (fin _ _ ⟨rfl, Off.refl _ _, cs, l, ha, hb⟩))⟩
    refine t_nil (b := b) (cs := cs) (fun Q' q => ⟨_, rfl, a, _, rfl, gO ha, q⟩) hb fun p hp => ?_
    have ha1 := upd_keep (o := .lst []) ha hp
    have hb1 := upd_keep (o := .lst []) hb hp
    have off1 : Off [a, b] H (upd H p (.lst [])) := (Off.refl _ _).upd hp
    generalize upd H p (.lst []) = H1 at ha1 hb1 off1
    cases cs with
    | nil => exact iteF (fin _ _ ⟨rfl, off1, [], l, ha1, hb1⟩)
    | cons c cs =>
      refine iteT ⟨_, rfl, a, _, rfl, gO ha1, .inl ⟨rfl, _, SqL.of hb1⟩, b, _, 0, 0, _, rfl, rfl, hb1, by decide, by decide, seqIndex_of (by decide) (by simp), rfl, ?_⟩
      have ha2 : upd H1 b (.lst (((c :: cs).map V.int).eraseIdx 0)) a = some (.dK (pk b l t k)) := by rw [upd_ne ne]; exact ha1
      refine ⟨_, rfl, a, _, rfl, pL ha2, fin _ _ ⟨rfl, (off1.set (by simp)).set (by simp), cs, c, upd_same, ?_⟩⟩
      rw [upd_ne ne.symm, upd_same]
      rfl
def spOf : Sp := fun vs H Q _ => ∃ (a b l : Addr) (ns : List Int), vs = [.ref a, .ref l] ∧ PotAt H a b ∧ H l = some (.lst (ns.map V.int)) ∧ l ∉ [a, b] ∧ 0 < ns.length ∧ ns.length ≤ 1000 ∧ ∀ r H', r ∈ ns → PotAt H' a b → Off [a, b] H H' → Q (.int r) H'
theorem sc__law_of : FnScope ["_law_pot_here", "_law_some"] ["_law_pot_here", "_law_some"] (defScope s__law_of) := ⟨rfl, rfl, rfl, by decide +kernel, rfl, by decide +kernel, by decide +kernel⟩
theorem ok_of (F : FunAt K mg "_law_of" s__law_of ["_law_pot_here", "_law_some"]) (T : Tx mg) (O__law_next : Ok P w K mg base "_law_next" 1 ["_law_pot_here", "_law_many"] spNext) : Ok P w K mg base "_law_of" 2 ["_law_pot_here", "_law_some"] spOf := by
  refine F.okJ sc__law_of (fun vs H Q E h => ?_) (fun cdv f A outer s H vs Q E hr h => ?_)
  · obtain ⟨a, b, l, ns, rfl, _⟩ := h
    rfl
  · obtain ⟨a, b, l, ns, rfl, hP, hl, hn, h0, h1, k⟩ := h
    refine ⟨_, (jb_one (js_ret (j_ixL K (jv 1) (j_call O__law_next (hr.mono (by omega)) rfl (ja_cons (jv 0) (ja_cons (jc_len K rfl T.b_len (ja_cons (jv 1) ja_nil)) ja_nil)))))), ?_⟩
    have hm : ((ns.length : Nat) : Int) < 10 ^ 100 := Int.lt_of_le_of_lt (show (ns.length : Int) ≤ 1000 by omega) (by decide +kernel)
    refine ⟨_, rfl, _, rfl, _, rfl, l, _, rfl, .inl (SqL.of hl), a, b, _, rfl, hP, by rw [List.length_map]; omega, by rw [List.length_map]; exact hm, fun r H1 r0 r1 hP1 off1 => ?_⟩
    rw [List.length_map] at r1
    obtain ⟨j, rfl⟩ : ∃ j : Nat, r = j := ⟨r.toNat, by omega⟩
    have hj : j < ns.length := by omega
    refine ⟨l, _, _, _, rfl, rfl, SqL.of (off1 _ _ hn hl), atI_nat (j := j) (by rw [List.getElem?_map, List.getElem?_eq_getElem hj]; rfl), k _ H1 (List.getElem_mem hj) hP1 off1⟩
end
def SD (H : Hp) : Nat → V → V → Prop
  | 0, _, _ => False
  | n + 1, x, y => (∃ i, x = .int i ∧ y = .int i) ∨ ∃ a b xs ys, x = .ref a ∧ y = .ref b ∧ H a = some (.tup xs) ∧ H b = some (.tup ys) ∧ xs.length = ys.length ∧ xs.length ≤ 1000 ∧ ∀ (i : Nat) x' y', xs[i]? = some x' → ys[i]? = some y' → SD H n x' y'
theorem SD.same {H H' : Hp} (s : Same H H') : ∀ {n : Nat} {x y : V}, SD H n x y → SD H' n x y
  | 0, _, _, h => h
  | n + 1, x, y, h => by
    rcases h with h | ⟨a, b, xs, ys, h1, h2, h3, h4, h5, h6, h7⟩
    · exact .inl h
    · exact .inr ⟨a, b, xs, ys, h1, h2, s _ _ h3, s _ _ h4, h5, h6, fun i x' y' e e' => SD.same s (h7 i x' y' e e')⟩
theorem SD.ints {H : Hp} {x y : V} {ns : List Int} (hx : IT H x ns) (hy : IT H y ns) (hl : ns.length ≤ 1000) : SD H 2 x y := by
  obtain ⟨a, rfl, ha⟩ := hx
  obtain ⟨b, rfl, hb⟩ := hy
  refine .inr ⟨a, b, _, _, rfl, rfl, ha, hb, rfl, by rw [List.length_map]; exact hl, fun i x' y' e e' => ?_⟩
  rw [e] at e'
  cases e'
  obtain ⟨z, _, rfl⟩ := get_int e
  exact .inl ⟨z, rfl, rfl⟩
section
variable {P : Program} {w : World} {K : PySem.W.Frag} {mg : Str → Option Value} {base : Heap}
def spSame (n : Nat) : Sp := fun vs H Q _ => ∃ x y, vs = [x, y] ∧ SD H n x y ∧ ∀ H', Same H H' → Q (.bl true) H'
theorem ok_void {x : Str} {st : Stmt} {ps : List Str} {k : Nat} (F : FunAt K mg x st ps) : Ok P w K mg base x k ps (fun _ _ _ _ => False) := by
  obtain ⟨f, fd, h1, h2, h3⟩ := F.ex
  exact ⟨f, fd, h1, h2.kp, h3, ⟨fun _ _ _ _ z => z.elim, fun _ _ _ _ _ _ _ _ _ _ _ _ _ z => z.elim⟩⟩
theorem sc__law_same : FnScope ["_law_found", "_law_due"] ["_law_found", "_law_due"] (defScope s__law_same) := ⟨rfl, rfl, rfl, by decide +kernel, rfl, by decide +kernel, by decide +kernel⟩
theorem ok_same (F : FunAt K mg "_law_same" s__law_same ["_law_found", "_law_due"]) (T : Tx mg) : ∀ n : Nat, Ok P w K mg base "_law_same" (n + 1) ["_law_found", "_law_due"] (spSame n)
  | 0 => (ok_void F).imp fun vs H Q E ⟨_, _, _, z, _⟩ => z
  | n + 1 => by
    have O__law_same := ok_same F T n
    refine F.okJ sc__law_same (fun vs H Q E h => ?_) (fun cdv f A outer s H vs Q E hr h => ?_)
    · obtain ⟨x, y, rfl, _⟩ := h
      rfl
    · obtain ⟨x, y, rfl, hS, kk⟩ := h
      refine ⟨_, (jb_cons (js_if (jt_tru K (jc_isinstance K rfl T.b_isinstance (ja_cons (jv 1) (ja_cons (j_bltn (v := .ty "tuple") rfl T.b_tuple bb_tuple rfl) ja_nil))))
 (jb_cons (js_if (jt_w (jw_or (jt_not (jt_tru K (jc_isinstance K rfl T.b_isinstance (ja_cons (jv 0) (ja_cons (j_bltn (v := .ty "tuple") rfl T.b_tuple bb_tuple rfl) ja_nil))))) (jw_or1 (jt_ne (jc_len K rfl T.b_len (ja_cons (jv 0) ja_nil)) (jc_len K rfl T.b_len (ja_cons (jv 1) ja_nil))))))
 (jb_one (js_ret j_bl))
 jb_nil)
 (jb_one (js_ret (jc_all K rfl T.b_all (ja_cons (j_comp (N := ["_law_one", "_law_other"]) (src := [none, none]) (ji_zip K rfl T.b_zip (ja_cons (jv 0) (ja_cons (jv 1) ja_nil))) (by show capOk _ _ = true; rfl) (by rfl) (by rfl)
  (fun _ _ _ _ _ => (jg_tup K 2 (jgs_cons (jg_name (i := 0) (show (["_law_one", "_law_other"] : List Str).Nodup by decide +kernel) rfl (Or.inl rfl)) (jgs_cons (jg_name (i := 1) (show (["_law_one", "_law_other"] : List Str).Nodup by decide +kernel) rfl (Or.inl rfl)) jgs_nil)))) (fun _ _ _ _ _ => jf_nil) (fun _ _ _ _ _ => (j_call O__law_same (hr.mono (by omega)) rfl (ja_cons (jv 0) (ja_cons (jv 1) ja_nil))))) ja_nil)))))
 jb_nil)
 (jb_cons (js_if (jt_isN (jv 1) j_non)
 (jb_one (js_ret (jv_isN (jv 0) j_non)))
 jb_nil)
 (jb_cons (js_if (jt_tru K (jc_isinstance K rfl T.b_isinstance (ja_cons (jv 1) (ja_cons (j_bltn (v := .ty "str") rfl T.b_str bb_str rfl) ja_nil))))
 (jb_one (js_ret (j_and (jc_isinstance K rfl T.b_isinstance (ja_cons (jv 0) (ja_cons (j_bltn (v := .ty "str") rfl T.b_str bb_str rfl) ja_nil))) (j_one (jv_eq (jv 0) (jv 1))))))
 jb_nil)
 (jb_one (js_ret (j_and (jc_isinstance K rfl T.b_isinstance (ja_cons (jv 0) (ja_cons (j_bltn (v := .ty "int") rfl T.b_int bb_int rfl) ja_nil))) (j_and (j_not (jc_isinstance K rfl T.b_isinstance (ja_cons (jv 0) (ja_cons (j_bltn (v := .ty "bool") rfl T.b_bool bb_bool rfl) ja_nil)))) (j_one (jv_eq (jv 0) (jv 1)))))))))), ?_⟩
      rcases hS with ⟨i, rfl, rfl⟩ | ⟨a, b, xs, ys, rfl, rfl, ha, hb, hl, hlen, hi⟩
      · refine ⟨_, rfl, _, _, _, false, rfl, .int i, rfl, _, rfl, iteF ?_⟩
        refine ⟨_, rfl, rfl, _, rfl, ?_⟩
        rw [decide_eq_false (by intro z; cases z)]
        refine iteF ⟨_, rfl, _, _, _, false, rfl, .int i, rfl, _, rfl, iteF ?_⟩
        refine ⟨_, rfl, _, _, _, true, rfl, .int i, rfl, _, rfl, iteT ?_⟩
        refine ⟨_, rfl, _, _, _, false, rfl, .int i, rfl, _, rfl, _, rfl, iteT ?_⟩
        refine ⟨_, rfl, _, rfl, rfl, ?_⟩
        rw [show decide (V.int i = V.int i) = true from decide_eq_true rfl]
        exact kk H (Same.refl H)
      · refine ⟨_, rfl, _, _, _, true, rfl, .tup hb, rfl, _, rfl, iteT ?_⟩
        refine ⟨_, rfl, _, _, _, true, rfl, .tup ha, rfl, _, rfl, iteF ?_⟩
        refine ⟨_, rfl, _, _, rfl, .inr (SqT.of ha), _, rfl, _, _, rfl, .inr (SqT.of hb), rfl, _, rfl, ?_⟩
        rw [show decide (V.int (xs.length : Int) = V.int (ys.length : Int)) = true from decide_eq_true (by rw [hl])]
        refine iteF ?_
        refine ⟨_, rfl, _, rfl, true, true, a, b, rfl, ⟨_, SqT.of ha⟩, ⟨_, SqT.of hb⟩, ?_⟩
        have hz : (1000 : Nat) ≤ sizeLine := by rw [sizeLine_eq]; decide
        refine comp_zip (K := K) (k1 := true) (k2 := true) (a := a) (b := b) (xs := xs) (zs := ys) (by omega) (fun i zs H' => Same H H' ∧ zs = List.replicate i (.bl true)) ⟨Same.refl H, rfl⟩
          (fun i zs H' _ _ h => ⟨SqT.of (h.1 _ _ ha), SqT.of (h.1 _ _ hb), by rw [h.2, List.length_replicate]; exact Nat.le_refl _⟩) ?_ ?_
        · rintro i x z zs H' p hx hy ⟨s', rfl⟩ hp
          have s2 : Same H (upd H' p (.tup [x, z])) := s'.upd hp
          refine ⟨p, [x, z], rfl, SqT.of upd_same, rfl, x, [z], rfl, z, [], rfl, rfl, ⟨rfl, fun j v e => ?_⟩, ?_⟩
          · match j, e with
            | 0, e => cases e
            | 1, e => cases e
          · refine ⟨_, rfl, _, rfl, x, z, rfl, (hi i x z hx hy).same s2, fun H3 s3 => ⟨s2.trans s3, ?_⟩⟩
            rw [List.replicate_succ']
        · rintro zs H' ⟨s', rfl⟩ p hp
          refine ⟨false, p, _, rfl, SqL.of upd_same, ?_, ?_⟩
          · simp [flatT]
          · rw [show (List.replicate (min xs.length ys.length) (V.bl true)).all trV = true by simp [trV]]
            exact kk _ (s'.upd hp)
end
theorem VV2.pot {H H' : Hp} {v : V} {A : List (List Int)} {a b : Addr} (h : VV2 H v A) (hP : PotAt H a b) (o : Off [a, b] H H') : VV2 H' v A := by
  obtain ⟨c, us, e, e1, e2⟩ := h
  exact ⟨c, us, e, o _ _ (potne hP e1) e1, Its.pot e2 hP o⟩
structure Sg (H H' : Hp) (a b pr : Addr) (wd : Nat) (us : List V) (rss : List (List Int)) : Prop where
  P : PotAt H' a b
  off : Off [a, b] H H'
  e : H' pr = some (.lst us)
  I : Its H' us rss
  R : Vw wd rss
theorem Sg.same {H H1 H2 : Hp} {a b pr : Addr} {wd : Nat} {us : List V} {rss : List (List Int)} (h : Sg H H1 a b pr wd us rss) (s : Same H1 H2) : Sg H H2 a b pr wd us rss := ⟨h.P.same s, h.off.trans s.off, s _ _ h.e, h.I.same s, h.R⟩
theorem Sg.draw {H H1 H2 : Hp} {a b pr : Addr} {wd : Nat} {us : List V} {rss : List (List Int)} (h : Sg H H1 a b pr wd us rss) (hp : pr ∉ [a, b]) (P2 : PotAt H2 a b) (o : Off [a, b] H1 H2) : Sg H H2 a b pr wd us rss := ⟨P2, h.off.trans o, o _ _ hp h.e, Its.pot h.I h.P o, h.R⟩
theorem Sg.put {H H1 : Hp} {a b pr c : Addr} {wd : Nat} {us xs : List V} {rss : List (List Int)} {o : HO} (h : Sg H H1 a b pr wd us rss) (hc : c ∉ [a, b]) (hn : H c = none) (hcp : pr ≠ c) (hl : H1 c = some (.lst xs)) : Sg H (upd H1 c o) a b pr wd us rss := ⟨pot_put h.P hc, off_fr h.off hn, by rw [upd_ne hcp]; exact h.e, h.I.put hl, h.R⟩
theorem lt100 {m : Int} (h : m < 10 ^ 60) : m + 1 < 10 ^ 100 := Int.lt_of_le_of_lt (show m + 1 ≤ 10 ^ 60 by omega) (by decide +kernel)
theorem andv_via {ta tb : TE} {σ : L2.St} {H : Hp} {Q : VK} (Pv : Bool → Hp → Prop) (hQ : ∀ c H', Pv c H' → Q (.bl c) H') (h : (∀ c H', Pv c H' → Q (.bl c) H') → tAndV ta tb σ H Q) : tAndV ta tb σ H Q := h hQ
theorem two_at (x y : Int) (c : Bool) : ∃ m : Int, atI [V.int x, .int y] (if c = true then 1 else 0) = some (.int m) ∧ (m = x ∨ m = y) := by
  cases c
  · exact ⟨x, rfl, .inl rfl⟩
  · exact ⟨y, rfl, .inr rfl⟩
section
variable {P : Program} {w : World} {K : PySem.W.Frag} {mg : Str → Option Value} {base : Heap}
def spVecs : Sp := fun vs H Q _ => ∃ (a b : Addr) (wd : Nat) (wi m : Int), vs = [.ref a, .int wi, .int m] ∧ wi = wd ∧ wd ≤ 8 ∧ 0 ≤ m ∧ m < 10 ^ 60 ∧ PotAt H a b ∧ ∀ v A H', VV2 H' v A → Vw wd A → A.length ≤ 12 → PotAt H' a b → Off [a, b] H H' → Q v H'
theorem sc__law_vectors : FnScope ["_law_pot_here", "_law_width", "_law_most", "_law_made", "_law_k", "_law_one", "_law_j"] ["_law_pot_here", "_law_width", "_law_most"] (defScope s__law_vectors) := ⟨rfl, rfl, rfl, by decide +kernel, rfl, by decide +kernel, by decide +kernel⟩
theorem ok_vectors (F : FunAt K mg "_law_vectors" s__law_vectors ["_law_pot_here", "_law_width", "_law_most"]) (T : Tx mg) (O__law_next : Ok P w K mg base "_law_next" 1 ["_law_pot_here", "_law_many"] spNext) (O__law_of : Ok P w K mg base "_law_of" 2 ["_law_pot_here", "_law_some"] spOf) : Ok P w K mg base "_law_vectors" 3 ["_law_pot_here", "_law_width", "_law_most"] spVecs := by
  refine F.okJ sc__law_vectors (fun vs H Q E h => ?_) (fun cdv f A outer s H vs Q E hr h => ?_)
  · obtain ⟨a, b, wd, wi, m, rfl, _⟩ := h
    rfl
  · obtain ⟨a, b, wd, _, m, rfl, rfl, hw, m0, m1, hP, k⟩ := h
    have hz : (3000 : Nat) ≤ sizeLine := by rw [sizeLine_eq]; decide
    refine ⟨_, (jb_cons (js_set (i := 3) sc__law_vectors.nd rfl (Or.inl rfl) (j_lst ja_nil))
 (jb_cons (js_for (ji_range1 rfl T.b_range (ja_cons (j_call O__law_next (hr.mono (by omega)) rfl (ja_cons (jv 0) (ja_cons (j_ixL K (j_lst (ja_cons j_int (ja_cons j_int ja_nil))) (jc_int rfl T.b_int (ja_cons (j_and (jv_lt (jv 2) (j_pow j_int j_int)) (j_one (jv_eq (j_call O__law_next (hr.mono (by omega)) rfl (ja_cons (jv 0) (ja_cons j_int ja_nil))) j_int))) ja_nil))) ja_nil))) ja_nil)) (jg_name (i := 4) sc__law_vectors.nd rfl (Or.inl rfl))
 (jb_cons (js_set (i := 5) sc__law_vectors.nd rfl (Or.inl rfl) (j_lst ja_nil))
 (jb_cons (js_for (ji_range1 rfl T.b_range (ja_cons (jv 1) ja_nil)) (jg_name (i := 6) sc__law_vectors.nd rfl (Or.inl rfl))
 (jb_one (js_expr (jm_append K (jv 5) (ja_cons (j_call O__law_of (hr.mono (by omega)) rfl (ja_cons (jv 0) (ja_cons (j_lst (ja_cons j_int (ja_cons (j_call O__law_next (hr.mono (by omega)) rfl (ja_cons (jv 0) (ja_cons j_int ja_nil))) (ja_cons (j_call O__law_next (hr.mono (by omega)) rfl (ja_cons (jv 0) (ja_cons (j_add (jv 2) j_int) ja_nil))) (ja_cons (jv 2) ja_nil))))) ja_nil))) ja_nil)))))
 (jb_one (js_expr (jm_append K (jv 3) (ja_cons (jc_tuple K rfl T.b_tuple (ja_cons (jv 5) ja_nil)) ja_nil)))))))
 (jb_one (js_ret (jc_tuple K rfl T.b_tuple (ja_cons (jv 3) ja_nil)))))), ?_⟩
    refine ⟨Nat.zero_le _, fun pr hpr => ?_⟩
    have hprP := potfree hP hpr
    have s0 := (Same.refl H).upd (o := .lst []) hpr
    have S0 : Sg H (upd H pr (.lst [])) a b pr wd [] [] := ⟨hP.same s0, s0.off, upd_same, .nil, fun _ z => nomatch z⟩
    generalize upd H pr (.lst []) = H0 at S0
    clear s0
    dsimp only [gName]
    refine ⟨_, rfl, by show 2 ≤ sizeLine; omega, fun p4 hp4 => ?_⟩
    have s4 := (Same.refl H0).upd (o := .lst [V.int 4, .int 13]) hp4
    have S4 := S0.same s4
    have p4P := potfree S0.P hp4
    have e4 : upd H0 p4 (.lst [V.int 4, .int 13]) p4 = some (.lst [V.int 4, .int 13]) := upd_same
    generalize upd H0 p4 (.lst [V.int 4, .int 13]) = H4 at S4 e4
    clear s4 S0
    refine andv_via (fun c H5 => Sg H H5 a b pr wd [] [] ∧ H5 p4 = some (.lst [V.int 4, .int 13])) (fun c H5 ⟨S5, e5⟩ => ?_) fun fin => ?_
    rotate_left
    · refine ⟨_, rfl, _, _, rfl, rfl, ⟨by decide, by decide, by decide⟩, _, _, rfl, rfl, _, rfl, ite2 (fun e => ?_) (fun e => fin _ _ ⟨S4, e4⟩)⟩
      refine ⟨_, rfl, a, b, 8, rfl, S4.P, by decide, by decide +kernel, fun r H5 _ _ hP5 off5 => ⟨rfl, fin _ _ ⟨S4.draw hprP hP5 off5, off5 _ _ p4P e4⟩⟩⟩
    clear S4 e4
    obtain ⟨mi, hm1, hm2⟩ := two_at 4 13 c
    refine .inr ⟨c, rfl, p4, _, _, _, rfl, rfl, SqL.of e5, hm1, a, b, mi, rfl, S5.P, by omega, Int.lt_of_le_of_lt (show mi ≤ 13 by omega) (by decide +kernel), fun r6 H6 h60 h61 hP6 off6 => ?_⟩
    have S6 := S5.draw hprP hP6 off6
    obtain ⟨many, rfl⟩ : ∃ g : Nat, r6 = g := ⟨r6.toNat, by omega⟩
    have hm12 : many ≤ 12 := by omega
    clear S5 e5 hP6 off6 hm1 hm2 h60 h61
    refine ⟨_, rfl, by omega, by omega, ?_⟩
    rw [Int.toNat_natCast]
    refine for_range (lo := 0) (n := many) (fun i σ H' => ∃ (o4 o5 o6 : Option V) (us : List V) (rss : List (List Int)), σ = [some (.ref a), some (.int wd), some (.int m), some (.ref pr), o4, o5, o6] ∧ Sg H H' a b pr wd us rss ∧ us.length = i) ⟨none, none, none, [], [], rfl, S6, rfl⟩ ?_ ?_
    · rintro i σ H8 hi ⟨o4, o5, o6, us, rss, rfl, S8, hul⟩
      dsimp only [gName]
      refine ⟨Nat.zero_le _, fun po hpo => ?_⟩
      have poP := potfree S8.P hpo
      have popr : pr ≠ po := ne_of_none S8.e hpo
      have poH := off_free S8.off S8.P hpo
      have s9 := (Same.refl H8).upd (o := .lst []) hpo
      have S9 := S8.same s9
      have e9 : upd H8 po (.lst []) po = some (.lst []) := upd_same
      generalize upd H8 po (.lst []) = H9 at S9 e9
      clear S8 s9 hpo
      dsimp only [gName]
      refine ⟨_, rfl, _, rfl, by omega, by omega, ?_⟩
      rw [Int.toNat_natCast]
      refine for_range (lo := 0) (n := wd) (fun j σ H' => ∃ (o6 : Option V) (xs : List Int), σ = [some (.ref a), some (.int wd), some (.int m), some (.ref pr), some (.int (0 + (i : Int))), some (.ref po), o6] ∧ Sg H H' a b pr wd us rss ∧ H' po = some (.lst (xs.map V.int)) ∧ xs.length = j ∧ Sz xs) ⟨o6, [], rfl, S9, e9, rfl, fun _ z => nomatch z⟩ ?_ ?_
      · clear S9 e9
        rintro j σ H10 hj ⟨o6, xs, rfl, S10, e10, hxl, hxs⟩
        dsimp only [gName]
        refine ⟨_, rfl, .inl ⟨rfl, _, SqL.of e10⟩, _, rfl, _, rfl, a, b, 12, rfl, S10.P, by decide, by decide +kernel, fun r11 H11 h110 h111 hP11 off11 => ?_⟩
        have S11 := S10.draw hprP hP11 off11
        have e11 := off11 _ _ poP e10
        clear S10 e10 hP11 off11
        refine ⟨_, rfl, _, rfl, _, _, rfl, rfl, a, b, m + 1, rfl, S11.P, by omega, lt100 m1, fun r12 H12 h120 h121 hP12 off12 => ?_⟩
        have S12 := S11.draw hprP hP12 off12
        have e12 := off12 _ _ poP e11
        clear S11 e11 hP12 off12
        refine ⟨_, rfl, by show 4 ≤ sizeLine; omega, fun p13 hp13 => ?_⟩
        have p13P := potfree S12.P hp13
        have s13 := (Same.refl H12).upd (o := .lst [V.int 0, .int r11, .int r12, .int m]) hp13
        have S13 := S12.same s13
        have e13 := s13 _ _ e12
        refine ⟨a, b, p13, [0, r11, r12, m], rfl, S13.P, upd_same, p13P, by show 0 < 4; decide, by show 4 ≤ 1000; decide, fun r14 H14 hr14 hP14 off14 => ?_⟩
        have S14 := S13.draw hprP hP14 off14
        have e14 := off14 _ _ poP e13
        refine ⟨po, _, _, rfl, rfl, e14, by rw [List.length_map]; omega, ?_⟩
        have h14 : 0 ≤ r14 ∧ r14 < 10 ^ 60 := by
          simp only [List.mem_cons, List.not_mem_nil, or_false] at hr14
          omega
        refine ⟨_, xs ++ [r14], rfl, S14.put poP poH popr e14, by rw [upd_same, List.map_append]; rfl, by simp [hxl], fun x hx => ?_⟩
        rcases List.mem_append.mp hx with z | z
        · exact hxs x z
        · rw [List.mem_singleton.mp z]; exact h14
      · clear S9 e9
        rintro σ H10 ⟨o6, xs, rfl, S10, e10, hxl, hxs⟩
        refine ⟨_, rfl, .inl ⟨rfl, _, SqL.of S10.e⟩, _, rfl, po, _, rfl, .inl ⟨SqL.of e10, fun q hq => ?_⟩⟩
        have s11 := (Same.refl H10).upd (o := .tup (xs.map V.int)) hq
        have S11 := S10.same s11
        refine ⟨pr, _, _, rfl, rfl, S11.e, by omega, ?_⟩
        refine ⟨_, _, _, us ++ [.ref q], rss ++ [xs], rfl, ⟨pot_put S11.P hprP, off_fr S11.off hpr, upd_same, (S11.I.snoc ⟨q, rfl, upd_same⟩).put S11.e, fun r hr => ?_⟩, by simp [hul]⟩
        rcases List.mem_append.mp hr with z | z
        · exact S10.R r z
        · rw [List.mem_singleton.mp z]; exact ⟨hxl, hxs⟩
    · rintro σ H8 ⟨o4, o5, o6, us, rss, rfl, S8, hul⟩
      refine ⟨_, rfl, pr, _, rfl, .inl ⟨SqL.of S8.e, fun q hq => ?_⟩⟩
      have s9 := (Same.refl H8).upd (o := .tup us) hq
      have S9 := S8.same s9
      exact k _ rss _ ⟨q, us, rfl, upd_same, S9.I⟩ S9.R (by rw [← S9.I.1, hul]; exact hm12) S9.P S9.off
theorem its_off1 {H H' : Hp} {vs : List V} {rss : List (List Int)} {c : Addr} {o : HO} (h : Its H vs rss) (hc : H c = some o) (hn : ∀ xs, HO.tup xs ≠ o) (off : Off [c] H H') : Its H' vs rss :=
  ⟨h.1, fun i v e => let ⟨r, e1, a, e2, q⟩ := h.2 i v e; ⟨r, e1, a, e2, off _ _ (by simpa using ne_of q hc (hn _)) q⟩⟩
structure PairAt (H : Hp) (q : Addr) (A B : List (List Int)) (n : Nat) : Prop where
  ex : ∃ u v, H q = some (.tup [u, v]) ∧ VV2 H u A ∧ VV2 H v B
  wA : Vw n A
  wB : Vw n B
  n1 : 1 ≤ n
  n8 : n ≤ 8
  l1 : A.length ≤ 12
  l2 : B.length ≤ 12
theorem PairAt.same {H H' : Hp} {q : Addr} {A B : List (List Int)} {n : Nat} (h : PairAt H q A B n) (s : Same H H') : PairAt H' q A B n := by
  obtain ⟨⟨u, v, e, eu, ev⟩, h2, h3, h4, h5, h6, h7⟩ := h
  exact ⟨⟨u, v, s _ _ e, eu.same s, ev.same s⟩, h2, h3, h4, h5, h6, h7⟩
theorem PairAt.pot {H H' : Hp} {q : Addr} {A B : List (List Int)} {n : Nat} {a b : Addr} (h : PairAt H q A B n) (hP : PotAt H a b) (o : Off [a, b] H H') : PairAt H' q A B n := by
  obtain ⟨⟨u, v, e, eu, ev⟩, h2, h3, h4, h5, h6, h7⟩ := h
  exact ⟨⟨u, v, o _ _ (potne hP e) e, VV2.pot eu hP o, VV2.pot ev hP o⟩, h2, h3, h4, h5, h6, h7⟩
def spPair : Sp := fun vs H Q _ => ∃ (a b : Addr) (m : Int), vs = [.ref a, .int m] ∧ 0 ≤ m ∧ m < 10 ^ 60 ∧ PotAt H a b ∧ ∀ q A B n H', PairAt H' q A B n → PotAt H' a b → Off [a, b] H H' → Q (.ref q) H'
theorem sc__law_pair : FnScope ["_law_pot_here", "_law_most", "_law_width"] ["_law_pot_here", "_law_most"] (defScope s__law_pair) := ⟨rfl, rfl, rfl, by decide +kernel, rfl, by decide +kernel, by decide +kernel⟩
theorem ok_pair (F : FunAt K mg "_law_pair" s__law_pair ["_law_pot_here", "_law_most"]) (T : Tx mg) (O__law_next : Ok P w K mg base "_law_next" 1 ["_law_pot_here", "_law_many"] spNext) (O__law_vectors : Ok P w K mg base "_law_vectors" 3 ["_law_pot_here", "_law_width", "_law_most"] spVecs) : Ok P w K mg base "_law_pair" 4 ["_law_pot_here", "_law_most"] spPair := by
  refine F.okJ sc__law_pair (fun vs H Q E h => ?_) (fun cdv f A outer s H vs Q E hr h => ?_)
  · obtain ⟨a, b, m, rfl, _⟩ := h
    rfl
  · obtain ⟨a, b, m, rfl, m0, m1, hP, k⟩ := h
    have hz : (3000 : Nat) ≤ sizeLine := by rw [sizeLine_eq]; decide
    refine ⟨_, (jb_cons (js_set (i := 2) sc__law_pair.nd rfl (Or.inl rfl) (j_add j_int (j_call O__law_next (hr.mono (by omega)) rfl (ja_cons (jv 0) (ja_cons j_int ja_nil)))))
 (jb_one (js_ret (j_tup (ja_cons (j_call O__law_vectors (hr.mono (by omega)) rfl (ja_cons (jv 0) (ja_cons (jv 2) (ja_cons (jv 1) ja_nil)))) (ja_cons (j_call O__law_vectors (hr.mono (by omega)) rfl (ja_cons (jv 0) (ja_cons (jv 2) (ja_cons (jv 1) ja_nil)))) ja_nil)))))), ?_⟩
    refine ⟨_, rfl, a, b, 8, rfl, hP, by decide, by decide +kernel, fun r1 H1 h10 h11 hP1 off1 => ?_⟩
    refine ⟨_, _, rfl, rfl, ?_⟩
    obtain ⟨wd, hwd⟩ : ∃ g : Nat, 1 + r1 = g := ⟨(1 + r1).toNat, by omega⟩
    have hw1 : 1 ≤ wd := by omega
    have hw8 : wd ≤ 8 := by omega
    dsimp only [gName]
    rw [hwd]
    refine ⟨_, rfl, _, rfl, _, rfl, a, b, wd, _, m, rfl, rfl, hw8, m0, m1, hP1, fun u A' H2 hu wA lA hP2 off2 => ?_⟩
    refine ⟨_, rfl, _, rfl, _, rfl, a, b, wd, _, m, rfl, rfl, hw8, m0, m1, hP2, fun v B H3 hv wB lB hP3 off3 => ?_⟩
    refine ⟨by show 2 ≤ sizeLine; omega, fun q hq => ?_⟩
    have s4 := (Same.refl H3).upd (o := .tup [u, v]) hq
    exact k q A' B wd _ ⟨⟨u, v, upd_same, (VV2.pot hu hP2 off3).same s4, hv.same s4⟩, wA, wB, hw1, hw8, lA, lB⟩ (hP3.same s4) (((off1.trans off2).trans off3).trans s4.off)
def spText : Sp := fun vs H Q _ => ∃ (q : Addr) (A B : List (List Int)) (n : Nat), vs = [.ref q] ∧ PairAt H q A B n ∧ ∀ H', Same H H' → Q (.str (pt A B)) H'
theorem sc__law_text : FnScope ["_law_pair_here", "_law_lines", "_law_word", "_law_vectors_here"] ["_law_pair_here"] (defScope s__law_text) := ⟨rfl, rfl, rfl, by decide +kernel, rfl, by decide +kernel, by decide +kernel⟩
theorem ok_text (F : FunAt K mg "_law_text" s__law_text ["_law_pair_here"]) (T : Tx mg) : Ok P w K mg base "_law_text" 1 ["_law_pair_here"] spText := by
  refine F.okJ sc__law_text (fun vs H Q E h => ?_) (fun cdv f A outer s H vs Q E hr h => ?_)
  · obtain ⟨q, A, B, n, rfl, _⟩ := h
    rfl
  · obtain ⟨q, A', B, n, rfl, Pq, k⟩ := h
    have hz : (300000 : Nat) ≤ sizeLine := by rw [sizeLine_eq]; decide
    refine ⟨_, (jb_cons (js_set (i := 1) sc__law_text.nd rfl (Or.inl rfl) (j_lst ja_nil))
 (jb_cons (js_for (ji_zip K rfl T.b_zip (ja_cons (j_lst (ja_cons j_str (ja_cons j_str ja_nil))) (ja_cons (jv 0) ja_nil))) (jg_tup K 2 (jgs_cons (jg_name (i := 2) sc__law_text.nd rfl (Or.inr rfl)) (jgs_cons (jg_name (i := 3) sc__law_text.nd rfl (Or.inl rfl)) jgs_nil)))
 (jb_one (js_expr (jm_extend K (jv 1) (ja_cons (j_comp (N := ["_law_one", "_law_word"]) (src := [none, some 2]) (ji_tup K (jv 3)) (by show capOk _ _ = true; rfl) (by rfl) (by rfl)
  (fun _ _ _ _ _ => (jg_name (i := 0) (show (["_law_one", "_law_word"] : List Str).Nodup by decide +kernel) rfl (Or.inl rfl))) (fun _ _ _ _ _ => jf_nil) (fun _ _ _ _ _ => (jm_join K j_str (ja_cons (j_cat (j_lst (ja_cons (jv 1) ja_nil)) (j_comp (N := ["_law_number"]) (src := [none]) (ji_tup K (jv 0)) (by show capOk _ _ = true; rfl) (by rfl) (by rfl)
  (fun _ _ _ _ _ => (jg_name (i := 0) (show (["_law_number"] : List Str).Nodup by decide +kernel) rfl (Or.inl rfl))) (fun _ _ _ _ _ => jf_nil) (fun _ _ _ _ _ => (jc_strI rfl T.b_str (ja_cons (jv 0) ja_nil))))) ja_nil)))) ja_nil)))))
 (jb_one (js_ret (jm_join K j_str (ja_cons (jv 1) ja_nil)))))), ?_⟩
    refine ⟨Nat.zero_le _, fun pl hpl => ?_⟩
    have s0 := (Same.refl H).upd (o := .lst []) hpl
    have e0 : upd H pl (.lst []) pl = some (.lst []) := upd_same
    generalize upd H pl (.lst []) = H0 at s0 e0
    dsimp only [gName]
    obtain ⟨⟨u, v, eq0, hu0, hv0⟩, wA, wB, n1, n8, l1, l2⟩ := Pq.same s0
    refine ⟨by show 2 ≤ sizeLine; omega, fun pz hpz => ?_⟩
    have s1 := (Same.refl H0).upd (o := .lst [V.str wL, .str wS]) hpz
    have ez : upd H0 pz (.lst [V.str wL, .str wS]) pz = some (.lst [V.str wL, .str wS]) := upd_same
    have hplz : pl ≠ pz := ne_of_none e0 hpz
    have hplq : q ≠ pl := ne_of eq0 e0 (by intro z; cases z)
    have e1 := s1 _ _ e0
    have eq1 := s1 _ _ eq0
    have hu1 := hu0.same s1
    have hv1 := hv0.same s1
    have s01 := s0.trans s1
    have hw1 : Str.ofString "least" = wL := by with_unfolding_all rfl
    have hw2 : Str.ofString "step" = wS := by with_unfolding_all rfl
    rw [hw1, hw2]
    generalize upd H0 pz (.lst [V.str wL, .str wS]) = H1 at s1 ez e1 eq1 hu1 hv1 s01
    refine ⟨_, rfl, false, true, pz, q, rfl, ⟨_, SqL.of ez⟩, ⟨_, SqT.of eq1⟩, ?_⟩
    have Lx : ∃ L : Nat → List Str, L 0 = [] ∧ L 1 = A'.map (ln wL) ∧ L 2 = lns A' B := ⟨fun i => if i = 0 then [] else if i = 1 then A'.map (ln wL) else lns A' B, rfl, rfl, rfl⟩
    obtain ⟨L, L0, L1, L2'⟩ := Lx
    refine for_zip (K := K) (k1 := false) (k2 := true) (a := pz) (b := q) (xs := [V.str wL, .str wS]) (zs := [u, v]) (fun i σ H' => ∃ o2 o3, σ = [some (.ref q), some (.ref pl), o2, o3] ∧ H' pl = some (.lst ((L i).map V.str)) ∧ Off [pl] H1 H') ⟨none, none, rfl, by rw [L0]; exact e1, Off.refl _ _⟩ (fun i σ H' _ _ ⟨_, _, _, _, o⟩ => ⟨SqL.of (o _ _ (by simpa using hplz.symm) ez), SqT.of (o _ _ (by simpa using hplq) eq1)⟩) ?_ ?_
    · rintro i x z σ H2 p hx hz2 ⟨o2, o3, rfl, e2, off2⟩ hp
      obtain ⟨w', A2, rfl, hz3, wA2, hw60, hl2, hL, hLl⟩ : ∃ (w' : Str) (A2 : List (List Int)), x = .str w' ∧ VV2 H1 z A2 ∧ Vw n A2 ∧ w'.length ≤ 60 ∧ A2.length ≤ 12 ∧ L (i + 1) = L i ++ A2.map (ln w') ∧ (L i).length ≤ 12 := by
        match i, hx, hz2 with
        | 0, hx, hz2 =>
          cases hx
          cases hz2
          exact ⟨wL, A', rfl, hu1, wA, by decide, l1, by rw [L0, L1]; rfl, by rw [L0]; exact Nat.zero_le _⟩
        | 1, hx, hz2 =>
          cases hx
          cases hz2
          exact ⟨wS, B, rfl, hv1, wB, by decide, l2, by rw [L1, L2']; rfl, by rw [L1, List.length_map]; exact l1⟩
        | i + 2, hx, _ => cases hx
      have s3 := (Same.refl H2).upd (o := .tup [V.str w', z]) hp
      have e3 := s3 _ _ e2
      have off3 := off2.trans s3.off
      obtain ⟨za, us, rfl, ea, hI⟩ := hz3
      have offI : Its H2 us A2 := its_off1 hI e1 (fun _ y => by cases y) off2
      have ea2 := off2 _ _ (by simpa using ne_of ea e1 (by intro y; cases y)) ea
      have ep : upd H2 p (.tup [V.str w', .ref za]) p = some (.tup [V.str w', .ref za]) := upd_same
      have ea3 := s3 _ _ ea2
      have I3 := offI.same s3
      generalize upd H2 p (.tup [V.str w', .ref za]) = H3 at s3 e3 off3 ep ea3 I3
      refine ⟨p, _, rfl, SqT.of ep, rfl, _, [.ref za], rfl, .ref za, [], rfl, rfl, ?_⟩
      dsimp only [gName]
      refine ⟨_, rfl, .inl ⟨rfl, _, SqL.of e3⟩, _, rfl, za, rfl, ⟨_, SqT.of ea3⟩, ?_⟩
      refine tup_mapV (vs := us) (as := A2) (caps := [some (.str w')]) (fun r => V.str (ln w' r)) (by rw [I3.1]; omega) I3.1 (fun H' s => SqT.of (s _ _ ea3)) rfl (fun j t r H4 Q4 ht hr4 s4 q4 => ?_) fun H4 p4 s4 hp4 => ?_
      · obtain ⟨r', hr', b, rfl, hb⟩ := I3.2 j t ht
        rw [hr4] at hr'
        cases hr'
        obtain ⟨rn, rs⟩ := wA2 r (List.mem_of_getElem? hr4)
        refine ⟨rfl, _, rfl, by show 1 ≤ sizeLine; omega, fun p5 hp5 => ?_⟩
        have s5 := s4.upd (o := .lst [V.str w']) hp5
        have s45 := (Same.refl H4).upd (o := .lst [V.str w']) hp5
        have e5 : upd H4 p5 (.lst [V.str w']) p5 = some (.lst [V.str w']) := upd_same
        generalize upd H4 p5 (.lst [V.str w']) = H5 at s5 e5 s45
        have hb5 := s5 _ _ hb
        refine ⟨_, rfl, b, rfl, ⟨_, SqT.of hb5⟩, ?_⟩
        refine tup_mapV (vs := r.map V.int) (as := r) (caps := []) (fun x => V.str (figI x)) (by rw [List.length_map]; omega) (List.length_map ..) (fun H' s => SqT.of (s _ _ hb5)) rfl (fun i v x H6 Q6 hv hx6 s6 q6 => ?_) fun H6 p6 s6 hp6 => ?_
        · rw [List.getElem?_map, hx6] at hv
          cases hv
          exact ⟨_, rfl, rd_figs (rs x (List.mem_of_getElem? hx6)) (q6 _ (Same.refl _))⟩
        have s7 := s6.upd (o := .lst (r.map fun x => V.str (figI x))) hp6
        refine ⟨p5, p6, _, _, rfl, rfl, s7 _ _ e5, upd_same, by simp only [List.length_map, List.length_cons, List.length_nil]; omega, fun p8 hp8 => ?_⟩
        have s8 := s7.upd (o := .lst ([V.str w'] ++ r.map fun x => V.str (figI x))) hp8
        have hll := ln_len hw60 rs (by omega)
        refine ⟨bk, p8, w' :: r.map figI, 60, rfl, rfl, SqL.of (by rw [upd_same, List.map_cons, List.map_map]; rfl), fun y hy => ?_, ?_, by show (ln w' r).length ≤ _; omega, q4 _ (s45.trans s8)⟩
        · rcases List.mem_cons.mp hy with rfl | hy
          · exact hw60
          · obtain ⟨x, hx, rfl⟩ := List.mem_map.mp hy; exact figI_len (rs x hx)
        · rw [List.length_cons, List.length_map, show bk.length = 1 from rfl]
          omega
      · have s5 := s4.upd (o := .lst (A2.map fun r => V.str (ln w' r))) hp4
        refine ⟨pl, p4, _, _, rfl, rfl, s5 _ _ e3, upd_same, by simp only [List.length_map]; omega, ?_⟩
        refine ⟨_, _, rfl, ?_, (off3.trans s5.off).set (by simp)⟩
        rw [upd_same, hL, List.map_append, List.map_map]
        rfl
    · rintro σ H2 ⟨o2, o3, rfl, e2, off2⟩
      have e2' : H2 pl = some (.lst ((lns A' B).map V.str)) := by rw [e2, ← L2']; rfl
      have hp := pt_len wA wB n8 (by omega)
      refine ⟨rfl, _, rfl, lf, pl, lns A' B, 549, rfl, rfl, SqL.of e2', lns_len wA wB n8, ?_, by show (pt A' B).length ≤ _; omega, k _ fun b o e => off2 b o (by simpa using ne_of_none e hpl) (s01 _ _ e)⟩
      rw [show (lns A' B).length = A'.length + B.length by simp [lns], show lf.length = 1 from rfl]
      omega
end
theorem SD.vecs {H : Hp} {x y : V} {A : List (List Int)} (hx : VV2 H x A) (hy : VV2 H y A) (hl : A.length ≤ 1000) (hr : ∀ r ∈ A, r.length ≤ 1000) : SD H 3 x y := by
  obtain ⟨a, us, rfl, ha, hI⟩ := hx
  obtain ⟨b, ws, rfl, hb, hJ⟩ := hy
  refine .inr ⟨a, b, us, ws, rfl, rfl, ha, hb, by rw [hI.1, hJ.1], by rw [hI.1]; exact hl, fun i x' y' e e' => ?_⟩
  obtain ⟨r, e1, e2⟩ := hI.2 i x' e
  obtain ⟨r', f1, f2⟩ := hJ.2 i y' e'
  rw [e1] at f1
  cases f1
  exact SD.ints e2 f2 (hr r (List.mem_of_getElem? e1))
theorem SD.pair {H : Hp} {p q : Addr} {x y u v : V} (hp : H p = some (.tup [x, y])) (hq : H q = some (.tup [u, v])) (h1 : SD H 3 x u) (h2 : SD H 3 y v) : SD H 4 (.ref p) (.ref q) := by
  refine .inr ⟨p, q, _, _, rfl, rfl, hp, hq, rfl, by show 2 ≤ 1000; decide, fun i x' y' e e' => ?_⟩
  match i, e, e' with
  | 0, e, e' => cases e; cases e'; exact h1
  | 1, e, e' => cases e; cases e'; exact h2
  | i + 2, e, _ => cases e
def Prs (H : Hp) (us : List V) : Prop := ∀ (i : Nat) (v : V), us[i]? = some v → ∃ q A B n, v = .ref q ∧ PairAt H q A B n
theorem Prs.same {H H' : Hp} {us : List V} (h : Prs H us) (s : Same H H') : Prs H' us := fun i v e => let ⟨q, A, B, n, e1, e2⟩ := h i v e; ⟨q, A, B, n, e1, e2.same s⟩
theorem Prs.pot {H H' : Hp} {us : List V} {a b : Addr} (h : Prs H us) (hP : PotAt H a b) (o : Off [a, b] H H') : Prs H' us := fun i v e => let ⟨q, A, B, n, e1, e2⟩ := h i v e; ⟨q, A, B, n, e1, e2.pot hP o⟩
theorem Prs.snoc {H : Hp} {us : List V} {q : Addr} {A B : List (List Int)} {n : Nat} (h : Prs H us) (hq : PairAt H q A B n) : Prs H (us ++ [.ref q]) := fun i v e => by
  rcases List.mem_append.mp (List.mem_of_getElem? e) with z | z
  · obtain ⟨j, hj⟩ := List.getElem?_of_mem z
    exact h j v hj
  · exact ⟨q, A, B, n, List.mem_singleton.mp z, hq⟩
theorem Prs.both {H : Hp} {us : List V} (h : Prs H us) : Prs H (us ++ us.reverse) := fun i v e => by
  have hm : v ∈ us := by
    rcases List.mem_append.mp (List.mem_of_getElem? e) with z | z
    · exact z
    · exact List.mem_reverse.mp z
  obtain ⟨j, hj⟩ := List.getElem?_of_mem hm
  exact h j v hj
section
variable {P : Program} {w : World} {K : PySem.W.Frag} {mg : Str → Option Value} {base : Heap}
theorem draw_pairs {src : List (Option Nat)} {σ caps : L2.St} {Q : VK} {n : Nat} {H : Hp} {a b : Addr} {te : TE} (hn : n ≤ 100) (hsrc : blkSt src σ = none :: caps) (hP : PotAt H a b)
    (hte : ∀ (i : Nat) (H' : Hp) (N : VK), PotAt H' a b → (∀ q A B n H'', PairAt H'' q A B n → PotAt H'' a b → Off [a, b] H' H'' → N (.ref q) H'') → te (some (.int i) :: caps) H' N)
    (hd : ∀ H' p us, us.length ≤ n → Prs H' us → PotAt H' a b → Off [a, b] H H' → H' p = none → Q (.ref p) (upd H' p (.lst us))) : CompW src (gName 0) tTrue te σ Q (Itr 0 n) H := by
  refine range_by (by omega) hsrc (fun i ys H' => ys.length = i ∧ Prs H' ys ∧ PotAt H' a b ∧ Off [a, b] H H') ⟨rfl, fun i v e => (by simp at e), hP, Off.refl _ _⟩ (fun i ys H' h => by rw [h.1]; exact Nat.le_refl _) ?_ ?_
  · rintro i ys H' hi ⟨hl, hp, hP', off⟩
    exact hte i H' _ hP' fun q A B n H'' hq hP'' off' => ⟨by simp [hl], (Prs.pot hp hP' off').snoc hq, hP'', off.trans off'⟩
  · rintro ys H' ⟨hl, hp, hP', off⟩ p hp0
    exact hd H' p ys (by omega) hp hP' off hp0
theorem sc_law : FnScope ["_law_script", "_law_pot_here", "_law_pairs", "_law_greats", "_law_pair_here", "_law_text_here", "_law_told"] ["_law_script"] (defScope s_law) := ⟨rfl, rfl, rfl, by decide +kernel, rfl, by decide +kernel, by decide +kernel⟩
theorem ok_law {f : Addr} {fd : FuncData} (F' : Fun K "law" "law" s_law f fd) (T : Tx mg) (O__law_pot : Ok P w K mg base "_law_pot" 1 ["_law_script"] (spPot K)) (O__law_pair : Ok P w K mg base "_law_pair" 4 ["_law_pot_here", "_law_most"] spPair) (O__law_text : Ok P w K mg base "_law_text" 1 ["_law_pair_here"] spText) (O__law_same : Ok P w K mg base "_law_same" 5 ["_law_found", "_law_due"] (spSame 4)) (O_show_paper : Ok P w K mg base "show_paper" 2 ["told", "paper"] spShowP) (O_read_paper : Ok P w K mg base "read_paper" 6 ["text"] spReadP) :
    FnOk P w K mg base CX0 8 f fd ["_law_script"] (spLaw K) := by
  refine F'.okJ sc_law (fun vs H Q E h => ?_) (fun cdv A outer s H vs Q E hr h => ?_)
  · obtain ⟨a, ns, rfl, _⟩ := h
    rfl
  · obtain ⟨a0, ns, rfl, hS, hl, kk⟩ := h
    refine ⟨_, (jb_cons (js_set (i := 1) sc_law.nd rfl (Or.inr rfl) (j_call O__law_pot (hr.mono (by omega)) rfl (ja_cons (jv 0) ja_nil)))
 (jb_cons (js_setC (i := 2) sc_law.nd rfl (Or.inl rfl) (N := ["_law_k", "_law_pot_here"]) (src := [none, some 1]) (ji_range1 rfl T.b_range (ja_cons j_int ja_nil)) (by show capOk _ _ = true; rfl) (by rfl) (by rfl)
  (fun _ _ _ _ _ => (jg_name (i := 0) (show (["_law_k", "_law_pot_here"] : List Str).Nodup by decide +kernel) rfl (Or.inl rfl))) (fun _ _ _ _ _ => jf_nil) (fun _ _ _ _ _ => (j_call O__law_pair (hr.mono (by omega)) rfl (ja_cons (jv 1) (ja_cons (j_pow j_int j_int) ja_nil)))))
 (jb_cons (js_setC (i := 3) sc_law.nd rfl (Or.inl rfl) (N := ["_law_k", "_law_pot_here"]) (src := [none, some 1]) (ji_range1 rfl T.b_range (ja_cons j_int ja_nil)) (by show capOk _ _ = true; rfl) (by rfl) (by rfl)
  (fun _ _ _ _ _ => (jg_name (i := 0) (show (["_law_k", "_law_pot_here"] : List Str).Nodup by decide +kernel) rfl (Or.inl rfl))) (fun _ _ _ _ _ => jf_nil) (fun _ _ _ _ _ => (j_call O__law_pair (hr.mono (by omega)) rfl (ja_cons (jv 1) (ja_cons (j_sub (j_pow j_int j_int) j_int) ja_nil)))))
 (jb_cons (js_for (ji_list K (j_cat (jv 2) (j_revL K (jv 2) (j_neg j_int)))) (jg_name (i := 4) sc_law.nd rfl (Or.inl rfl))
 (jb_cons (js_set (i := 5) sc_law.nd rfl (Or.inl rfl) (j_call O_show_paper (hr.mono (by omega)) rfl (ja_cons (j_ixT K (jv 4) j_int) (ja_cons (j_ixT K (jv 4) j_int) ja_nil))))
 (jb_one (js_if (jt_w (jw_or (jt_not (jt_tru K (jc_isinstance K rfl T.b_isinstance (ja_cons (jv 5) (ja_cons (j_bltn (v := .ty "str") rfl T.b_str bb_str rfl) ja_nil))))) (jw_or (jt_ne (jv 5) (j_call O__law_text (hr.mono (by omega)) rfl (ja_cons (jv 4) ja_nil))) (jw_or1 (jt_not (jt_tru K (j_call O__law_same (hr.mono (by omega)) rfl (ja_cons (j_call O_read_paper (hr.mono (by omega)) rfl (ja_cons (jv 5) ja_nil)) (ja_cons (jv 4) ja_nil)))))))))
 (jb_one (js_ret j_bl))
 jb_nil))))
 (jb_cons (js_for (ji_list K (j_cat (jv 3) (j_revL K (jv 3) (j_neg j_int)))) (jg_name (i := 4) sc_law.nd rfl (Or.inl rfl))
 (jb_cons (js_set (i := 6) sc_law.nd rfl (Or.inl rfl) (j_call O_read_paper (hr.mono (by omega)) rfl (ja_cons (j_call O__law_text (hr.mono (by omega)) rfl (ja_cons (jv 4) ja_nil)) ja_nil)))
 (jb_one (js_if (jt_w (jw_or (jt_not (jt_tru K (j_call O__law_same (hr.mono (by omega)) rfl (ja_cons (jv 6) (ja_cons (jv 4) ja_nil))))) (jw_or1 (jt_ne (j_call O_show_paper (hr.mono (by omega)) rfl (ja_cons (j_ixT K (jv 6) j_int) (ja_cons (j_ixT K (jv 6) j_int) ja_nil))) (j_call O__law_text (hr.mono (by omega)) rfl (ja_cons (jv 4) ja_nil))))))
 (jb_one (js_ret j_bl))
 jb_nil))))
 (jb_one (js_ret (j_and (j_call O__law_same (hr.mono (by omega)) rfl (ja_cons (j_call O_read_paper (hr.mono (by omega)) rfl (ja_cons j_str ja_nil)) (ja_cons (j_tup (ja_cons (j_tup ja_nil) (ja_cons (j_tup ja_nil) ja_nil))) ja_nil))) (j_one (jv_eq (j_call O_show_paper (hr.mono (by omega)) rfl (ja_cons (j_tup ja_nil) (ja_cons (j_tup ja_nil) ja_nil))) j_str)))))))))), ?_⟩
    have hz : (3000 : Nat) ≤ sizeLine := by rw [sizeLine_eq]; decide
    refine ⟨_, rfl, a0, ns, rfl, hS, by omega, fun a b H1 _ _ hP1 _ => ?_⟩
    dsimp only [gName]
    refine ⟨3, rfl, by decide, by decide, ?_⟩
    refine draw_pairs (n := 3) (caps := [some (.ref a)]) (by decide) rfl hP1 (fun i H' N hP' q => ⟨_, rfl, _, _, rfl, rfl, ⟨by decide, by decide, by decide⟩, a, b, _, rfl, by decide +kernel, by decide +kernel, hP', q⟩) fun H2 p2 us hul hus hP2 off2 hp2 => ?_
    have s3 := (Same.refl H2).upd (o := .lst us) hp2
    have e3 : upd H2 p2 (.lst us) p2 = some (.lst us) := upd_same
    have p2P := potfree hP2 hp2
    have hP3 := hP2.same s3
    have hus3 := hus.same s3
    generalize upd H2 p2 (.lst us) = H3 at s3 e3 hP3 hus3
    dsimp only [gName]
    refine ⟨2, rfl, by decide, by decide, ?_⟩
    refine draw_pairs (n := 2) (caps := [some (.ref a)]) (by decide) rfl hP3 (fun i H' N hP' q => ⟨_, rfl, _, _, rfl, rfl, ⟨by decide, by decide, by decide⟩, _, _, rfl, rfl, a, b, _, rfl, by decide +kernel, by decide +kernel, hP', q⟩) fun H4 p4 ws hwl hws hP4 off4 hp4 => ?_
    have s5 := (Same.refl H4).upd (o := .lst ws) hp4
    have e5 : upd H4 p4 (.lst ws) p4 = some (.lst ws) := upd_same
    have u5 := s5 _ _ (off4 _ _ p2P e3)
    have hus5 := (Prs.pot hus3 hP3 off4).same s5
    have hws5 := hws.same s5
    generalize upd H4 p4 (.lst ws) = H5 at s5 e5 u5 hus5 hws5
    clear s5 hus3 hP4 off4 hp4 hws s3 e3 hP3 hus hP2 off2 hp2 hP1
    dsimp only [gName]
    refine ⟨_, rfl, _, rfl, _, rfl, rfl, p2, us, rfl, SqL.of u5, fun p6 hp6 => ?_⟩
    have s6 := (Same.refl H5).upd (o := .lst us.reverse) hp6
    refine ⟨p2, p6, _, _, rfl, rfl, s6 _ _ u5, upd_same, by rw [List.length_reverse]; omega, fun p7 hp7 => ?_⟩
    have s7 := s6.upd (o := .lst (us ++ us.reverse)) hp7
    have e7 : upd (upd H5 p6 (.lst us.reverse)) p7 (.lst (us ++ us.reverse)) p7 = some (.lst (us ++ us.reverse)) := upd_same
    generalize upd (upd H5 p6 (.lst us.reverse)) p7 (.lst (us ++ us.reverse)) = H7 at s7 e7
    have hus7 := (hus5.both).same s7
    refine ⟨p7, rfl, ⟨_, SqL.of e7⟩, ?_⟩
    refine for_list (K := K) (a := p7) (xs := us ++ us.reverse) (fun i σ H' => ∃ o4 o5, σ = [some (.ref a0), some (.ref a), some (.ref p2), some (.ref p4), o4, o5, none] ∧ Same H7 H') ⟨none, none, rfl, Same.refl _⟩ (fun i σ H' _ ⟨_, _, _, s⟩ => SqL.of (s _ _ e7)) ?_ ?_
    · rintro i x σ H8 hx ⟨o4, o5, rfl, s8⟩
      obtain ⟨q, A', B, n, rfl, Pq⟩ := hus7 i x hx
      have P8 := Pq.same s8
      obtain ⟨⟨u, v, eq8, hu8, hv8⟩, wA, wB, n1, n8, l1, l2⟩ := id P8
      dsimp only [gName]
      refine ⟨_, rfl, q, _, 0, u, rfl, rfl, SqT.of eq8, rfl, _, rfl, q, _, 1, v, rfl, rfl, SqT.of eq8, rfl, u, v, A', B, n, rfl, hu8, hv8, wA, wB, n1, n8, by omega, fun H9 s9 => ?_⟩
      dsimp only [gName]
      refine ⟨_, rfl, _, _, _, true, rfl, .str _, rfl, _, rfl, iteF ?_⟩
      refine ⟨_, rfl, _, rfl, q, A', B, n, rfl, P8.same s9, fun H10 s10 => ⟨rfl, _, rfl, ?_⟩⟩
      rw [decide_eq_true rfl]
      have s10' := s9.trans s10
      refine iteF ⟨_, rfl, A', B, n, rfl, wA, wB, n1, n8, by omega, fun q11 u11 v11 H11 e11 hu11 hv11 s11 => ?_⟩
      have s11' := s10'.trans s11
      refine ⟨_, rfl, _, _, rfl, SD.pair e11 (s11' _ _ eq8) (SD.vecs hu11 (hu8.same s11') (by omega) fun r hr => by rw [(wA r hr).1]; omega) (SD.vecs hv11 (hv8.same s11') (by omega) fun r hr => by rw [(wB r hr).1]; omega), fun H12 s12 => ⟨_, rfl, iteF ?_⟩⟩
      exact ⟨_, _, rfl, (s8.trans s11').trans s12⟩
    · rintro σ H8 ⟨o4, o5, rfl, s8⟩
      have s8' := s7.trans s8
      refine ⟨_, rfl, _, rfl, _, rfl, rfl, p4, ws, rfl, SqL.of (s8' _ _ e5), fun p9 hp9 => ?_⟩
      have s9 := s8'.upd (o := .lst ws.reverse) hp9
      refine ⟨p4, p9, _, _, rfl, rfl, s9 _ _ e5, upd_same, by rw [List.length_reverse]; omega, fun p10 hp10 => ?_⟩
      have s10 := s9.upd (o := .lst (ws ++ ws.reverse)) hp10
      have e10 : upd (upd H8 p9 (.lst ws.reverse)) p10 (.lst (ws ++ ws.reverse)) p10 = some (.lst (ws ++ ws.reverse)) := upd_same
      generalize upd (upd H8 p9 (.lst ws.reverse)) p10 (.lst (ws ++ ws.reverse)) = H10 at s10 e10
      have hws10 := (hws5.both).same s10
      refine ⟨p10, rfl, ⟨_, SqL.of e10⟩, ?_⟩
      refine for_list (K := K) (a := p10) (xs := ws ++ ws.reverse) (fun i σ H' => ∃ o4 o6, σ = [some (.ref a0), some (.ref a), some (.ref p2), some (.ref p4), o4, o5, o6] ∧ Same H10 H') ⟨_, _, rfl, Same.refl _⟩ (fun i σ H' _ ⟨_, _, _, s⟩ => SqL.of (s _ _ e10)) ?_ ?_
      · rintro i x σ H11 hx ⟨o4, o6, rfl, s11⟩
        obtain ⟨q, A', B, n, rfl, Pq⟩ := hws10 i x hx
        have P11 := Pq.same s11
        obtain ⟨⟨u, v, eq11, hu11, hv11⟩, wA, wB, n1, n8, l1, l2⟩ := id P11
        dsimp only [gName]
        refine ⟨_, rfl, q, A', B, n, rfl, P11, fun H12 s12 => ⟨A', B, n, rfl, wA, wB, n1, n8, by omega, fun q13 u13 v13 H13 e13 hu13 hv13 s13 => ?_⟩⟩
        have s13' := s12.trans s13
        dsimp only [gName]
        refine ⟨_, rfl, _, rfl, _, _, rfl, SD.pair e13 (s13' _ _ eq11) (SD.vecs hu13 (hu11.same s13') (by omega) fun r hr => by rw [(wA r hr).1]; omega) (SD.vecs hv13 (hv11.same s13') (by omega) fun r hr => by rw [(wB r hr).1]; omega), fun H14 s14 => ⟨_, rfl, iteF ?_⟩⟩
        refine ⟨_, rfl, q13, _, 0, u13, rfl, rfl, SqT.of (s14 _ _ e13), rfl, _, rfl, q13, _, 1, v13, rfl, rfl, SqT.of (s14 _ _ e13), rfl, u13, v13, A', B, n, rfl, hu13.same s14, hv13.same s14, wA, wB, n1, n8, by omega, fun H15 s15 => ?_⟩
        have s15' := (s13'.trans s14).trans s15
        refine ⟨_, rfl, q, A', B, n, rfl, P11.same s15', fun H16 s16 => ⟨rfl, _, rfl, ?_⟩⟩
        rw [decide_eq_true rfl]
        exact iteF ⟨_, _, rfl, (s11.trans s15').trans s16⟩
      · rintro σ H11 ⟨o4, o6, rfl, s11⟩
        have e0 : V.str (Str.ofString "") = V.str (pt [] []) := rfl
        have v0 : Vw 1 [] := fun _ z => nomatch z
        refine ⟨[], [], 1, rfl, v0, v0, by decide, by decide, by decide, fun q12 u12 v12 H12 e12 hu12 hv12 s12 => ?_⟩
        refine ⟨Nat.zero_le _, fun p13 hp13 => ⟨Nat.zero_le _, fun p14 hp14 => ⟨by show 2 ≤ sizeLine; omega, fun p15 hp15 => ?_⟩⟩⟩
        have s13 := (Same.refl H12).upd (o := .tup []) hp13
        have s14 := (Same.refl (upd H12 p13 (.tup []))).upd (o := .tup []) hp14
        have s15 := (Same.refl (upd (upd H12 p13 (.tup [])) p14 (.tup []))).upd (o := .tup [.ref p13, .ref p14]) hp15
        have s1315 := (s13.trans s14).trans s15
        refine ⟨_, _, rfl, SD.pair (s1315 _ _ e12) upd_same (SD.vecs (hu12.same s1315) ⟨p13, [], rfl, s15 _ _ (s14 _ _ upd_same), .nil⟩ (by decide) fun _ z => nomatch z) (SD.vecs (hv12.same s1315) ⟨p14, [], rfl, s15 _ _ upd_same, .nil⟩ (by decide) fun _ z => nomatch z), fun H16 s16 => ⟨_, rfl, iteT ?_⟩⟩
        refine ⟨Nat.zero_le _, fun p17 hp17 => ⟨Nat.zero_le _, fun p18 hp18 => ?_⟩⟩
        have s18 := (Same.refl (upd H16 p17 (.tup []))).upd (o := .tup []) hp18
        refine ⟨_, _, [], [], 1, rfl, ⟨p17, [], rfl, s18 _ _ upd_same, .nil⟩, ⟨p18, [], rfl, upd_same, .nil⟩, v0, v0, by decide, by decide, by decide, fun H19 s19 => ⟨rfl, ?_⟩⟩
        rw [← e0, decide_eq_true rfl]
        exact kk H19
end
open PySem.W
theorem all_mk {l : PySem.W.OpenLaw} {w : World} {K : PySem.W.Frag} {h : Heap} {mg : Str → Option Value} {fa : Addr} (X : K.In h) (G : h.Ns mainGlobals mg) (hfa : mg "law" = some (.ref fa))
 (a1 : nsIn K mainGlobals "show_vector" = some (some (.ref f1))) (l1 : FnL K f1 "show_vector" "show_vector" s_show_vector o1 d1 s1 v1 x1 p1 n1 c1 t1) (c_1 : codeIn K c1 "show_vector" = true) (k1 : keepIn K (.ref f1) = true)
 (a2 : nsIn K mainGlobals "show_paper" = some (some (.ref f2))) (l2 : FnL K f2 "show_paper" "show_paper" s_show_paper o2 d2 s2 v2 x2 p2 n2 c2 t2) (c_2 : codeIn K c2 "show_paper" = true) (k2 : keepIn K (.ref f2) = true)
 (a3 : nsIn K mainGlobals "is_written" = some (some (.ref f3))) (l3 : FnL K f3 "is_written" "is_written" s_is_written o3 d3 s3 v3 x3 p3 n3 c3 t3) (c_3 : codeIn K c3 "is_written" = true) (k3 : keepIn K (.ref f3) = true)
 (a4 : nsIn K mainGlobals "read_figures" = some (some (.ref f4))) (l4 : FnL K f4 "read_figures" "read_figures" s_read_figures o4 d4 s4 v4 x4 p4 n4 c4 t4) (c_4 : codeIn K c4 "read_figures" = true) (k4 : keepIn K (.ref f4) = true)
 (a5 : nsIn K mainGlobals "read_vector" = some (some (.ref f5))) (l5 : FnL K f5 "read_vector" "read_vector" s_read_vector o5 d5 s5 v5 x5 p5 n5 c5 t5) (c_5 : codeIn K c5 "read_vector" = true) (k5 : keepIn K (.ref f5) = true)
 (a6 : nsIn K mainGlobals "take_all" = some (some (.ref f6))) (l6 : FnL K f6 "take_all" "take_all" s_take_all o6 d6 s6 v6 x6 p6 n6 c6 t6) (c_6 : codeIn K c6 "take_all" = true) (k6 : keepIn K (.ref f6) = true)
 (a7 : nsIn K mainGlobals "read_paper" = some (some (.ref f7))) (l7 : FnL K f7 "read_paper" "read_paper" s_read_paper o7 d7 s7 v7 x7 p7 n7 c7 t7) (c_7 : codeIn K c7 "read_paper" = true) (k7 : keepIn K (.ref f7) = true)
 (a8 : nsIn K mainGlobals "_law_pot" = some (some (.ref f8))) (l8 : FnL K f8 "_law_pot" "_law_pot" s__law_pot o8 d8 s8 v8 x8 p8 n8 c8 t8) (c_8 : codeIn K c8 "_law_pot" = true) (k8 : keepIn K (.ref f8) = true)
 (a9 : nsIn K mainGlobals "_law_next" = some (some (.ref f9))) (l9 : FnL K f9 "_law_next" "_law_next" s__law_next o9 d9 s9 v9 x9 p9 n9 c9 t9) (c_9 : codeIn K c9 "_law_next" = true) (k9 : keepIn K (.ref f9) = true)
 (a10 : nsIn K mainGlobals "_law_of" = some (some (.ref f10))) (l10 : FnL K f10 "_law_of" "_law_of" s__law_of o10 d10 s10 v10 x10 p10 n10 c10 t10) (c_10 : codeIn K c10 "_law_of" = true) (k10 : keepIn K (.ref f10) = true)
 (a11 : nsIn K mainGlobals "_law_same" = some (some (.ref f11))) (l11 : FnL K f11 "_law_same" "_law_same" s__law_same o11 d11 s11 v11 x11 p11 n11 c11 t11) (c_11 : codeIn K c11 "_law_same" = true) (k11 : keepIn K (.ref f11) = true)
 (a12 : nsIn K mainGlobals "_law_vectors" = some (some (.ref f12))) (l12 : FnL K f12 "_law_vectors" "_law_vectors" s__law_vectors o12 d12 s12 v12 x12 p12 n12 c12 t12) (c_12 : codeIn K c12 "_law_vectors" = true) (k12 : keepIn K (.ref f12) = true)
 (a13 : nsIn K mainGlobals "_law_pair" = some (some (.ref f13))) (l13 : FnL K f13 "_law_pair" "_law_pair" s__law_pair o13 d13 s13 v13 x13 p13 n13 c13 t13) (c_13 : codeIn K c13 "_law_pair" = true) (k13 : keepIn K (.ref f13) = true)
 (a14 : nsIn K mainGlobals "_law_text" = some (some (.ref f14))) (l14 : FnL K f14 "_law_text" "_law_text" s__law_text o14 d14 s14 v14 x14 p14 n14 c14 t14) (c_14 : codeIn K c14 "_law_text" = true) (k14 : keepIn K (.ref f14) = true)
 (a15 : nsIn K mainGlobals "law" = some (some (.ref f15))) (l15 : FnL K f15 "law" "law" s_law o15 d15 s15 v15 x15 p15 n15 c15 t15) (c_15 : codeIn K c15 "law" = true) (k15 : keepIn K (.ref f15) = true)
    (z1 : PySem.W.nsIn K mainGlobals "ValueError" = some none) (z2 : PySem.W.nsIn K mainGlobals "all" = some none) (z3 : PySem.W.nsIn K mainGlobals "bool" = some none) (z4 : PySem.W.nsIn K mainGlobals "enumerate" = some none) (z5 : PySem.W.nsIn K mainGlobals "int" = some none) (z6 : PySem.W.nsIn K mainGlobals "isinstance" = some none) (z7 : PySem.W.nsIn K mainGlobals "len" = some none) (z8 : PySem.W.nsIn K mainGlobals "range" = some none) (z9 : PySem.W.nsIn K mainGlobals "str" = some none) (z10 : PySem.W.nsIn K mainGlobals "tuple" = some none) (z11 : PySem.W.nsIn K mainGlobals "zip" = some none)
    {D_Sheet : Addr} (aD_Sheet : PySem.W.nsIn K mainGlobals "Sheet" = some (some (.ref D_Sheet))) {t_FIGURES : Tok} (aS_FIGURES : PySem.W.nsIn K mainGlobals "FIGURES" = some (some (.str (Str.ofString "0123456789") t_FIGURES))) (pg_Sheet : PySem.W.plainGet K D_Sheet Str.empty = true) (hd_Sheet : PySem.W.hasDictIn K D_Sheet = true) (po_Sheet : PySem.W.plainOver K D_Sheet = true) (sa_Sheet : PySem.W.findIn K (.ref D_Sheet) "__setattr__" = some (some (.builtin "object.__setattr__"))) (mk_Sheet : PySem.W.makesIn K D_Sheet = true) (kc_Sheet : PySem.W.keepIn K (.ref D_Sheet) = true) (n_Sheet_least_ones : PySem.W.findIn K (.ref D_Sheet) "least_ones" = some none) (n_Sheet_walked : PySem.W.findIn K (.ref D_Sheet) "walked" = some none) (a_Sheet___init__ : findIn K (.ref D_Sheet) "__init__" = some (some (.ref f_Sheet___init__))) (i_Sheet___init__ : isFn K (.ref f_Sheet___init__) = true) (l_Sheet___init__ : FnL K f_Sheet___init__ "__init__" "Sheet.__init__" s_Sheet___init__ o_Sheet___init__ d_Sheet___init__ s0_Sheet___init__ v_Sheet___init__ x_Sheet___init__ p_Sheet___init__ n0_Sheet___init__ c0_Sheet___init__ t_Sheet___init__) (c_Sheet___init__ : codeIn K c0_Sheet___init__ "Sheet.__init__" = true) (k_Sheet___init__ : keepIn K (.ref f_Sheet___init__) = true) (a_Sheet_take : findIn K (.ref D_Sheet) "take" = some (some (.ref f_Sheet_take))) (i_Sheet_take : isFn K (.ref f_Sheet_take) = true) (l_Sheet_take : FnL K f_Sheet_take "take" "Sheet.take" s_Sheet_take o_Sheet_take d_Sheet_take s0_Sheet_take v_Sheet_take x_Sheet_take p_Sheet_take n0_Sheet_take c0_Sheet_take t_Sheet_take) (c_Sheet_take : codeIn K c0_Sheet_take "Sheet.take" = true) (k_Sheet_take : keepIn K (.ref f_Sheet_take) = true) (a_Sheet_fits : findIn K (.ref D_Sheet) "fits" = some (some (.ref f_Sheet_fits))) (i_Sheet_fits : isFn K (.ref f_Sheet_fits) = true) (l_Sheet_fits : FnL K f_Sheet_fits "fits" "Sheet.fits" s_Sheet_fits o_Sheet_fits d_Sheet_fits s0_Sheet_fits v_Sheet_fits x_Sheet_fits p_Sheet_fits n0_Sheet_fits c0_Sheet_fits t_Sheet_fits) (c_Sheet_fits : codeIn K c0_Sheet_fits "Sheet.fits" = true) (k_Sheet_fits : keepIn K (.ref f_Sheet_fits) = true) :
    ∃ fd : FuncData, (∀ (s : Shared) (v : Value), BindsTo s fd ⟨[v], []⟩ [("_law_script", v)]) ∧ ∀ base : Heap, K.In base → base.Ns mainGlobals mg → FnOk l.prog w K mg base CX0 8 fa fd ["_law_script"] (spLaw K) := by
  have e := hfa.symm.trans (PySem.W.mg_of X G a15)
  cases e
  have T : Tx mg := ⟨PySem.W.mg_none_of X G z1, PySem.W.mg_none_of X G z2, PySem.W.mg_none_of X G z3, PySem.W.mg_none_of X G z4, PySem.W.mg_none_of X G z5, PySem.W.mg_none_of X G z6, PySem.W.mg_none_of X G z7, PySem.W.mg_none_of X G z8, PySem.W.mg_none_of X G z9, PySem.W.mg_none_of X G z10, PySem.W.mg_none_of X G z11⟩
  have F1 : FunAt K mg "show_vector" s_show_vector ["one"] := fa_mk X G a1 l1 c_1 k1 fun _ _ _ _ _ _ us hl => by obtain ⟨_, rfl⟩ := len1 hl; rfl
  have F2 : FunAt K mg "show_paper" s_show_paper ["told", "paper"] := fa_mk X G a2 l2 c_2 k2 fun _ _ _ _ _ _ us hl => by obtain ⟨_, _, rfl⟩ := len2 hl; rfl
  have F3 : FunAt K mg "is_written" s_is_written ["word"] := fa_mk X G a3 l3 c_3 k3 fun _ _ _ _ _ _ us hl => by obtain ⟨_, rfl⟩ := len1 hl; rfl
  have F4 : FunAt K mg "read_figures" s_read_figures ["word", "most"] := fa_mk X G a4 l4 c_4 k4 fun _ _ _ _ _ _ us hl => by obtain ⟨_, _, rfl⟩ := len2 hl; rfl
  have F5 : FunAt K mg "read_vector" s_read_vector ["words"] := fa_mk X G a5 l5 c_5 k5 fun _ _ _ _ _ _ us hl => by obtain ⟨_, rfl⟩ := len1 hl; rfl
  have F6 : FunAt K mg "take_all" s_take_all ["draft", "lines"] := fa_mk X G a6 l6 c_6 k6 fun _ _ _ _ _ _ us hl => by obtain ⟨_, _, rfl⟩ := len2 hl; rfl
  have F7 : FunAt K mg "read_paper" s_read_paper ["text"] := fa_mk X G a7 l7 c_7 k7 fun _ _ _ _ _ _ us hl => by obtain ⟨_, rfl⟩ := len1 hl; rfl
  have F8 : FunAt K mg "_law_pot" s__law_pot ["_law_script"] := fa_mk X G a8 l8 c_8 k8 fun _ _ _ _ _ _ us hl => by obtain ⟨_, rfl⟩ := len1 hl; rfl
  have F9 : FunAt K mg "_law_next" s__law_next ["_law_pot_here", "_law_many"] := fa_mk X G a9 l9 c_9 k9 fun _ _ _ _ _ _ us hl => by obtain ⟨_, _, rfl⟩ := len2 hl; rfl
  have F10 : FunAt K mg "_law_of" s__law_of ["_law_pot_here", "_law_some"] := fa_mk X G a10 l10 c_10 k10 fun _ _ _ _ _ _ us hl => by obtain ⟨_, _, rfl⟩ := len2 hl; rfl
  have F11 : FunAt K mg "_law_same" s__law_same ["_law_found", "_law_due"] := fa_mk X G a11 l11 c_11 k11 fun _ _ _ _ _ _ us hl => by obtain ⟨_, _, rfl⟩ := len2 hl; rfl
  have F12 : FunAt K mg "_law_vectors" s__law_vectors ["_law_pot_here", "_law_width", "_law_most"] := fa_mk X G a12 l12 c_12 k12 fun _ _ _ _ _ _ us hl => by obtain ⟨_, _, _, rfl⟩ := len3 hl; rfl
  have F13 : FunAt K mg "_law_pair" s__law_pair ["_law_pot_here", "_law_most"] := fa_mk X G a13 l13 c_13 k13 fun _ _ _ _ _ _ us hl => by obtain ⟨_, _, rfl⟩ := len2 hl; rfl
  have F14 : FunAt K mg "_law_text" s__law_text ["_law_pair_here"] := fa_mk X G a14 l14 c_14 k14 fun _ _ _ _ _ _ us hl => by obtain ⟨_, rfl⟩ := len1 hl; rfl
  refine ⟨fnOf "law" "law" (defArgs s_law) (defBody s_law) (defScope s_law) .none v15 x15 p15 n15 c15 t15, fun s v => .of_eq rfl, fun base XB GB => ?_⟩
  have M_Sheet := PySem.W.mg_of X G aD_Sheet
  have M_FIGURES := PySem.W.mg_of X G aS_FIGURES
  have CL_Sheet : Cls K D_Sheet := ⟨pg_Sheet, hd_Sheet, po_Sheet, sa_Sheet⟩
  have FM_Sheet___init__ : MethAt K D_Sheet "__init__" "Sheet.__init__" s_Sheet___init__ ["self"] := ma_mk a_Sheet___init__ i_Sheet___init__ l_Sheet___init__ c_Sheet___init__ k_Sheet___init__ fun _ _ _ _ _ _ us hl => by obtain ⟨_, rfl⟩ := len1 hl; rfl
  have FM_Sheet_take : MethAt K D_Sheet "take" "Sheet.take" s_Sheet_take ["self", "words"] := ma_mk a_Sheet_take i_Sheet_take l_Sheet_take c_Sheet_take k_Sheet_take fun _ _ _ _ _ _ us hl => by obtain ⟨_, _, rfl⟩ := len2 hl; rfl
  have FM_Sheet_fits : MethAt K D_Sheet "fits" "Sheet.fits" s_Sheet_fits ["self", "one"] := ma_mk a_Sheet_fits i_Sheet_fits l_Sheet_fits c_Sheet_fits k_Sheet_fits fun _ _ _ _ _ _ us hl => by obtain ⟨_, _, rfl⟩ := len2 hl; rfl
  have FL := fun_mk (st := s_law) l15 c_15 k15
  have US : ShTx K D_Sheet := ⟨CL_Sheet, n_Sheet_least_ones, n_Sheet_walked⟩
  have SV := ok_show_vector (base := base) (P := l.prog) (w := w) F1 T
  have RV := ok_read_vector F5 T (ok_read_figures F4 T (ok_is_written (base := base) (P := l.prog) (w := w) F3 T M_FIGURES))
  have MI := (ok_sinit (base := base) (P := l.prog) (w := w) (mg := mg) FM_Sheet___init__ US).make M_Sheet mk_Sheet kc_Sheet
  have MT := ok_takeS FM_Sheet_take US T CL_Sheet RV (ok_fits (base := base) (P := l.prog) (w := w) FM_Sheet_fits US T)
  have RP := ok_read_paper F7 T US MI (ok_take_all F6 T CL_Sheet MT)
  have NX := ok_next (base := base) (P := l.prog) (w := w) F9 T
  exact ok_law FL T (ok_pot F8 T) (ok_pair F13 T NX (ok_vectors F12 T NX (ok_of F10 T NX))) (ok_text F14 T) (ok_same F11 T 4) (ok_show_paper F2 T SV) RP
end K47
open PySem PySem.W PyProof.Rows
set_option maxRecDepth 100000 in
set_option maxHeartbeats 0 in
theorem PySem.Challenge.cw_leastlays_k47_papers_texts_holds : PySem.Challenge.rw_leastlays_k47_papers_texts.Holds := by
  w_on; o_law; k_head; (case hw => w_witness2)
  k_fill
  refine L2.law_walk (l := PySem.Challenge.rw_leastlays_k47_papers_texts) 8 rfl rfl ⟨rfl, by decide, by decide⟩ (fun w h Y => PySem.W.kIn_of Y) ?F
  case F =>
    intro w mg fa h KX G hmg
    refine' K47.all_mk KX G hmg ?a1 ?l1 ?c_1 ?k1 ?a2 ?l2 ?c_2 ?k2 ?a3 ?l3 ?c_3 ?k3 ?a4 ?l4 ?c_4 ?k4 ?a5 ?l5 ?c_5 ?k5 ?a6 ?l6 ?c_6 ?k6 ?a7 ?l7 ?c_7 ?k7 ?a8 ?l8 ?c_8 ?k8 ?a9 ?l9 ?c_9 ?k9 ?a10 ?l10 ?c_10 ?k10 ?a11 ?l11 ?c_11 ?k11 ?a12 ?l12 ?c_12 ?k12 ?a13 ?l13 ?c_13 ?k13 ?a14 ?l14 ?c_14 ?k14 ?a15 ?l15 ?c_15 ?k15 ?z1 ?z2 ?z3 ?z4 ?z5 ?z6 ?z7 ?z8 ?z9 ?z10 ?z11 ?aD_Sheet ?aS_FIGURES ?pg_Sheet ?hd_Sheet ?po_Sheet ?sa_Sheet ?mk_Sheet ?kc_Sheet ?n_Sheet_least_ones ?n_Sheet_walked ?a_Sheet___init__ ?i_Sheet___init__ ?l_Sheet___init__ ?c_Sheet___init__ ?k_Sheet___init__ ?a_Sheet_take ?i_Sheet_take ?l_Sheet_take ?c_Sheet_take ?k_Sheet_take ?a_Sheet_fits ?i_Sheet_fits ?l_Sheet_fits ?c_Sheet_fits ?k_Sheet_fits
    (case a1 | l1 | c_1 | k1 | a2 | l2 | c_2 | k2 | a3 | l3 | c_3 | k3 | a4 | l4 | c_4 | k4 | a5 | l5 | c_5 | k5 | a6 | l6 | c_6 | k6 | a7 | l7 | c_7 | k7 | a8 | l8 | c_8 | k8 | a9 | l9 | c_9 | k9 | a10 | l10 | c_10 | k10 | a11 | l11 | c_11 | k11 | a12 | l12 | c_12 | k12 | a13 | l13 | c_13 | k13 | a14 | l14 | c_14 | k14 | a15 | l15 | c_15 | k15 | z1 | z2 | z3 | z4 | z5 | z6 | z7 | z8 | z9 | z10 | z11 | aD_Sheet | aS_FIGURES => (try unfold L2.FnL); k_is)
    (case pg_Sheet | hd_Sheet | po_Sheet | sa_Sheet | mk_Sheet | kc_Sheet | n_Sheet_least_ones | n_Sheet_walked | a_Sheet___init__ | i_Sheet___init__ | l_Sheet___init__ | c_Sheet___init__ | k_Sheet___init__ | a_Sheet_take | i_Sheet_take | l_Sheet_take | c_Sheet_take | k_Sheet_take | a_Sheet_fits | i_Sheet_fits | l_Sheet_fits | c_Sheet_fits | k_Sheet_fits => (try unfold L2.FnL); k_is)
#print axioms PySem.Challenge.cw_leastlays_k47_papers_texts_holds
