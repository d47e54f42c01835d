import PyProof.Rows.All
import Wide.All
import OpenK.AllK
import Wide.FinOn
import PyProof.EqAt
import PyProof.EqKinds
import PyProof.TupleCall
import KE.BitLaws
import PyProof.P3In
import PyProof.ReprRoads
import KE.KMinKey
import KE.KRevIter
import PyProof.ListRange
import KE.KStar
import KE.KSortTupG
import PySem.SetOps
import PyProof.SetRoads
import PyProof.SetNew
import PyProof.TupleKey
import PyProof.IsRules
import PyProof.CollectWalk
import PyProof.FactsAll.set_1
import PyProof.Walk
import PyProof.WalkLemmas
import PyProof.FactsAll.set_2
import PyProof.WalksMore
import OpenK.KOwn
import PyProof.Rows.CatchOwn
import KE.KIsAll
import PyProof.ExcArgsOwn
import PyProof.CallFns
import PyProof.Rows.SetObj
import KE.KUnpack
import KE.KDictSum
import PyProof.AutoSeq1
import PyProof.Rows.SetFrom
import PyProof.Rows.FStr
import KE.KRevSl
import PyProof.StrBlock2
import KE.RegKIsAll
import PySem.Challenge.RW_closedrings_k46_desk_deeds
section
set_option Elab.async false
set_option linter.all false
set_option maxRecDepth 100000
/-! THE HAND LAYER, for ints, bools, texts, own classes, lists, tuples, dicts, comprehensions, walks over dicts, enumerate, zip, reversed, texts, calls, loops. Paste it whole ahead of your own text; what your proof does not reach may be deleted. -/
namespace L2
open PySem PySem.Spec PyProof.Rows

/-- a key: an int or a str -/
abbrev Key := Sum Int Str
def keyIs : Key → Value → Bool
  | .inl k, v => Value.isInt k v
  | .inr x, v => Value.isStrOf x v
def keyH (w : World) : Key → Int
  | .inl k => hashInt k
  | .inr x => hashStr w x
theorem keyIs_shape : ∀ {k : Key} {v : Value}, keyIs k v = true → (∃ i t, k = Sum.inl i ∧ v = Value.int i t) ∨ (∃ x t, k = Sum.inr x ∧ v = Value.str x t)
  | .inl i, v, h => by
    obtain ⟨t, e⟩ := Value.isInt_shape (k := i) (v := v) h
    exact .inl ⟨i, t, rfl, e⟩
  | .inr x, v, h => by
    obtain ⟨t, e⟩ := Value.isStrOf_shape (x := x) (v := v) h
    exact .inr ⟨x, t, rfl, e⟩
theorem key_ll (a b : Int) : decide ((Sum.inl a : Key) = Sum.inl b) = (a == b) := by
  by_cases e : a = b
  · subst e; simp
  · have h : ¬ (Sum.inl a : Key) = Sum.inl b := fun q => e (Sum.inl.inj q)
    rw [decide_eq_false h]
    exact (beq_eq_false_iff_ne.mpr e).symm
theorem key_rr (a b : Str) : decide ((Sum.inr a : Key) = Sum.inr b) = decide (a = b) := by
  by_cases e : a = b
  · subst e; simp
  · have h : ¬ (Sum.inr a : Key) = Sum.inr b := fun q => e (Sum.inr.inj q)
    rw [decide_eq_false h, decide_eq_false e]
theorem key_lr (a : Int) (b : Str) : decide ((Sum.inl a : Key) = Sum.inr b) = false := decide_eq_false (fun q => nomatch q)
theorem key_rl (a : Str) (b : Int) : decide ((Sum.inr a : Key) = Sum.inl b) = false := decide_eq_false (fun q => nomatch q)

def mixKind (prog : Program) (w : World) : PySem.KeyKind prog w Key where
  is := keyIs
  hash := keyH w
  inj := fun v a b ha hb => by
    rcases keyIs_shape ha with ⟨i, t, rfl, rfl⟩ | ⟨x, t, rfl, rfl⟩
    · rcases keyIs_shape hb with ⟨j, u, rfl, e⟩ | ⟨y, u, rfl, e⟩
      · injection e with e1 _; rw [e1]
      · exact nomatch e
    · rcases keyIs_shape hb with ⟨j, u, rfl, e⟩ | ⟨y, u, rfl, e⟩
      · exact nomatch e
      · injection e with e1 _; rw [e1]
  byValue := fun k v h => by
    rcases keyIs_shape h with ⟨i, t, rfl, rfl⟩ | ⟨x, t, rfl, rfl⟩ <;> rfl
  pyHash := fun hv h => by
    rcases keyIs_shape hv with ⟨i, t, rfl, rfl⟩ | ⟨x, t, rfl, rfl⟩
    · exact wpAny_pyHash_int h
    · exact wpAny_pyHash_str h
  eqBool := fun hu hv h => by
    rcases keyIs_shape hu with ⟨i, t, rfl, rfl⟩ | ⟨x, t, rfl, rfl⟩
    · rcases keyIs_shape hv with ⟨j, u, rfl, rfl⟩ | ⟨y, u, rfl, rfl⟩
      · rw [key_ll] at h; exact wpAny_eqBool_int h
      · rw [key_lr] at h; exact SeqAt.EqAt.int_str i t y u _ _ _ _ h
    · rcases keyIs_shape hv with ⟨j, u, rfl, rfl⟩ | ⟨y, u, rfl, rfl⟩
      · rw [key_rl] at h; exact SeqAt.EqAt.str_int x t j u _ _ _ _ h
      · rw [key_rr] at h; exact wpAny_eqBool_str h
  «strs» := fun k x t v h => by
    rcases keyIs_shape h with ⟨i, u, rfl, e⟩ | ⟨y, u, rfl, e⟩
    · exact nomatch e
    · injection e with e1 _
      subst e1
      cases v <;> rfl

end L2

namespace L2
open PySem PySem.Spec PyProof.Rows

/-- a value, without the heap -/
inductive V where
  | non | bl (b : Bool) | int (i : Int) | str (x : Str) | byt (b : Array UInt8) | flt (b : UInt64) | ref (a : Addr) | ty (n : String)
  deriving DecidableEq

def RelV : V → Value → Prop
  | .non, u => u = Value.none
  | .bl b, u => u = Value.bool b
  | .int i, u => ∃ t, u = Value.int i t
  | .str x, u => ∃ t, u = Value.str x t
  | .byt b, u => ∃ t, u = Value.bytes b t
  | .flt b, u => ∃ t, u = Value.float b t
  | .ref a, u => u = Value.ref a
  | .ty n, u => u = Value.type n

abbrev Vals : List V → List Value → Prop := Paired RelV
theorem Vals.length {xs : List V} {us : List Value} (r : Vals xs us) : xs.length = us.length := Paired.length r
theorem Vals.get : ∀ {xs : List V} {us : List Value} {i : Nat} {x : V}, Vals xs us → xs[i]? = some x → ∃ u, us[i]? = some u ∧ RelV x u
  | _, _, _, _, .nil, e => by simp at e
  | _, _, 0, _, .cons r _, e => by simp at e; subst e; exact ⟨_, rfl, r⟩
  | _, _, i + 1, x, .cons _ t, e => by
    obtain ⟨u, h1, h2⟩ := Vals.get (i := i) (x := x) t (by simpa using e)
    exact ⟨u, by simpa using h1, h2⟩
theorem Vals.set {x : V} {u : Value} (r : RelV x u) : ∀ {xs : List V} {us : List Value} (i : Nat), Vals xs us → Vals (xs.set i x) (us.set i u)
  | _, _, _, .nil => .nil
  | _, _, 0, .cons _ t => .cons r t
  | _, _, i + 1, .cons q t => .cons q (Vals.set r i t)
theorem Vals.append : ∀ {xs ys : List V} {us ws : List Value}, Vals xs us → Vals ys ws → Vals (xs ++ ys) (us ++ ws)
  | _, _, _, _, .nil, s => s
  | _, _, _, _, .cons r t, s => .cons r (Vals.append t s)
theorem Vals.take : ∀ {xs : List V} {us : List Value} (n : Nat), Vals xs us → Vals (xs.take n) (us.take n)
  | _, _, 0, _ => .nil
  | _, _, _ + 1, .nil => .nil
  | _, _, n + 1, .cons r t => .cons r (Vals.take n t)
theorem Vals.drop : ∀ {xs : List V} {us : List Value} (n : Nat), Vals xs us → Vals (xs.drop n) (us.drop n)
  | _, _, 0, r => r
  | _, _, _ + 1, .nil => .nil
  | _, _, n + 1, .cons _ t => Vals.drop n t
theorem Vals.none_of : ∀ {xs : List V} {us : List Value} {i : Nat}, Vals xs us → xs[i]? = none → us[i]? = none := fun {xs us i} r e => by
  have h1 := r.length
  have h2 : xs.length ≤ i := List.getElem?_eq_none_iff.mp e
  exact List.getElem?_eq_none_iff.mpr (by omega)

def RelO : Option V → Option Value → Prop
  | some v, some u => RelV v u
  | none, none => True
  | _, _ => False
def KV {κ : Type} : List (κ × V) → List (κ × Value) → Prop := Paired fun (p : κ × V) (q : κ × Value) => p.1 = q.1 ∧ RelV p.2 q.2

/-- a key of a dict (00_mix): an int or a text -/
def kV : Key → V
  | .inl i => .int i
  | .inr x => .str x

/-- what stands at a tracked address -/
inductive HO where
  /-- a list -/
  | lst (xs : List V)
  /-- a tuple (never changes) -/
  | tup (xs : List V)
  /-- a dict whose keys are ints and texts; one whose keys are tuples of ints and texts (the empty one is both) -/
  | dK (kvs : List (Key × V)) | dT (kvs : List (List Key × V))
  /-- a set of ints: its members, its size -/
  | set (S : Int → Bool) (n : Nat)
  /-- an instance of the class at C, its dict at dx, its attributes -/
  | ins (C dx : Addr) (fs : List (Str × V))
  /-- the dict of the instance at x -/
  | own (x : Addr)
  /-- the dict of an exception -/
  | xd (fs : List (Str × V))
  /-- a bound method, f of x -/
  | met (f x : Addr)
  /-- a range object lo, lo + 1, .. below hi -/
  | rng (lo hi : Int)
  /-- a thing that is known to the object (the script; a dict while a loop walks it): read, never written while it is so -/
  | frz (o : Obj) (u : HO)
  /-- a code object's table -/
  | tbl (ps : Array Value)
  /-- any other thing, by what is true of its one object (a def of one's own: SetO a S n := HO.ext fun h => ..) -/
  | ext (φ : Heap → Prop)

abbrev Hp := Addr → Option HO
def upd (H : Hp) (a : Addr) (o : HO) : Hp := fun b => if b = a then some o else H b
theorem upd_same {H : Hp} {a : Addr} {o : HO} : upd H a o a = some o := by unfold upd; rw [if_pos rfl]
theorem upd_ne {H : Hp} {a b : Addr} {o : HO} (h : b ≠ a) : upd H a o b = H b := by unfold upd; rw [if_neg h]
/-- two objects of different content stand apart -/
theorem ne_of {H : Hp} {a b : Addr} {o u : HO} (h : H a = some o) (h' : H b = some u) (d : o ≠ u) : a ≠ b := by
  intro e; subst e; rw [h] at h'; exact d (Option.some.inj h')
theorem ne_of_none {H : Hp} {a b : Addr} {o : HO} (h : H a = some o) (h' : H b = none) : a ≠ b := by
  intro e; subst e; rw [h] at h'; cases h'

/-- a tuple with no dict of its own -/
def TupN (h : Heap) (a : Addr) (items : Array Value) : Prop := ∃ o, h.get? a = some o ∧ o.cls = .type "tuple" ∧ ∃ n, o.data = .seq items n ∧ o.dict = none
theorem TupN.is {h : Heap} {a : Addr} {items : Array Value} (x : TupN h a items) : IsTup h a items := let ⟨o, e, c, n, d, _⟩ := x; ⟨o, e, c, n, d⟩
instance {h : Heap} {a : Addr} {items : Array Value} : Coe (TupN h a items) (IsTup h a items) := ⟨TupN.is⟩
theorem TupN.lt {h : Heap} {a : Addr} {items : Array Value} (x : TupN h a items) : a < h.objs.size := x.is.lt
theorem TupN.typeIs {s : Shared} {a : Addr} {items : Array Value} (x : TupN s.heap a items) : s.TypeIs (.ref a) "tuple" := x.is.typeIs
theorem IsTup.new (h : Heap) (items : Array Value) : TupN (h.push { cls := .type "tuple", data := .seq items }) h.objs.size items := ⟨_, Heap.get?_push_size _ rfl, rfl, _, rfl, rfl⟩
section
variable (P : Program) (w : World)
def ObjOk (H : Hp) (h : Heap) (a : Addr) : HO → Prop
  | .lst xs => xs.length ≤ sizeLine ∧ ∃ (its : List Value) (n : Nat), Vals xs its ∧ h.get? a = some { cls := .type "list", data := .seq its.toArray n }
  | .tup xs => xs.length ≤ sizeLine ∧ ∃ its : List Value, Vals xs its ∧ TupN h a its.toArray
  | .dK kvs => kvs.length ≤ sizeLine ∧ (a == sysModules) = false ∧ ∃ vs, KV kvs vs ∧ h.DictOf (mixKind P w) a vs
  | .dT kvs => kvs.length ≤ sizeLine ∧ (a == sysModules) = false ∧ ∃ xs : List (List Key × Addr × Value),
      Paired (fun (p : List Key × V) (q : List Key × Addr × Value) => p.1 = q.1 ∧ H q.2.1 = some (.tup (p.1.map kV)) ∧ RelV p.2 q.2.2) kvs xs ∧
      ∃ o es ep, h.get? a = some o ∧ o.ExactDict ∧ o.data = .dict es ep ∧ es.toList = xs.map (entryOfKey (tupleKind (mixKind P w))) ∧ (xs.map (·.1)).Nodup
  | .set S n => h.SetOf (intKind P w) a S n
  | .ins C dx fs => H dx = some (.own a) ∧ fs.length ≤ 1000 ∧ dx ≠ a ∧ h.get? a = some (PySem.W.instObj C dx) ∧
      ∃ mA, h.Ns1 dx mA ∧ (∀ f, RelO (fs.lookup f) (mA f)) ∧ PySem.Within mA (fs.map (·.1))
  | .own _ => ∃ o, h.get? a = some o
  | .xd fs => ∃ mA, h.Ns1 a mA ∧ ∀ f, RelO (fs.lookup f) (mA f)
  | .rng lo hi => ∃ t u v, h.get? a = some { cls := .type "range", data := .fields #[.int lo t, .int hi u, .int 1 v] }
  | .frz o u => h.get? a = some o ∧ ObjOk H h a u
  | .tbl ps => h.get? a = some { cls := .none, data := .fields ps }
  | .met f x => h.get? a = some (PySem.W.methodObj (.ref f) (.ref x))
  | .ext φ => φ h ∧ (∃ o, h.get? a = some o) ∧ ∀ h1 h2 : Heap, φ h1 → (∀ o, h1.get? a = some o → h2.get? a = some o) → φ h2
/-- the abstract heap is held -/
def HOk (H : Hp) (h : Heap) : Prop := ∀ a o, H a = some o → ObjOk P w H h a o
end

section
variable {P : Program} {w : World} {H H' : Hp} {h h' : Heap} {a : Addr} {o : HO}
theorem ObjOk.lt (x : ObjOk P w H h a o) : a < h.objs.size := by
  cases o with
  | lst xs => obtain ⟨_, _, _, _, e⟩ := x; exact Heap.lt_size e
  | tup xs => obtain ⟨_, _, _, p⟩ := x; exact p.lt
  | dK kvs => obtain ⟨_, _, _, _, o, _, _, e, _⟩ := x; exact Heap.lt_size e
  | dT kvs => obtain ⟨_, _, _, _, o, _, _, e, _⟩ := x; exact Heap.lt_size e
  | set S n => obtain ⟨o, _, _, _, e, _⟩ := x; exact Heap.lt_size e
  | ins C dx fs => obtain ⟨_, _, _, e, _⟩ := x; exact Heap.lt_size e
  | own y => obtain ⟨_, e⟩ := x; exact Heap.lt_size e
  | xd fs => obtain ⟨_, ⟨_, _, _, e, _⟩, _⟩ := x; exact Heap.lt_size e
  | rng lo hi => obtain ⟨_, _, _, e⟩ := x; exact Heap.lt_size e
  | frz ob u => obtain ⟨e, _⟩ := x; exact Heap.lt_size e
  | tbl ps => exact Heap.lt_size (show h.get? a = some _ from x)
  | met f y => exact Heap.lt_size (show h.get? a = some _ from x)
  | ext φ => obtain ⟨_, ⟨_, e⟩, _⟩ := x; exact Heap.lt_size e
theorem Paired.mapP {α β : Type} {F G : α → β → Prop} : ∀ {l₁ : List α} {l₂ : List β}, Paired F l₁ l₂ → (∀ a b, F a b → G a b) → Paired G l₁ l₂
  | _, _, .nil, _ => .nil
  | _, _, .cons r t, f => .cons (f _ _ r) (Paired.mapP t f)
/-- what an object's description leans on: its own object, its own dict, the tuples -/
theorem ObjOk.stay (x : ObjOk P w H h a o) (k : ∀ b u, (b = a ∨ H b = some (.own a)) → h.get? b = some u → h'.get? b = some u)
    (ho : ∀ b, H b = some (.own a) → H' b = some (.own a)) (ht : ∀ b xs, H b = some (.tup xs) → H' b = some (.tup xs)) : ObjOk P w H' h' a o := by
  induction o with
  | lst xs => obtain ⟨z, its, n, r, e⟩ := x; exact ⟨z, its, n, r, k _ _ (.inl rfl) e⟩
  | tup xs => obtain ⟨z, its, r, ob, e, c⟩ := x; exact ⟨z, its, r, ob, k _ _ (.inl rfl) e, c⟩
  | dK kvs => obtain ⟨z, y, vs, r, ob, es, ep, e, c⟩ := x; exact ⟨z, y, vs, r, ob, es, ep, k _ _ (.inl rfl) e, c⟩
  | dT kvs =>
    obtain ⟨z, y, xs, r, ob, es, ep, e, c⟩ := x
    exact ⟨z, y, xs, Paired.mapP r fun p q z => ⟨z.1, ht _ _ z.2.1, z.2.2⟩, ob, es, ep, k _ _ (.inl rfl) e, c⟩
  | set S n => obtain ⟨ob, es, ep, t, e, c⟩ := x; exact ⟨ob, es, ep, t, k _ _ (.inl rfl) e, c⟩
  | ins C dx fs =>
    obtain ⟨d, z, ne, e, mA, ⟨od, es, ep, e2, c⟩, r⟩ := x
    exact ⟨ho _ d, z, ne, k _ _ (.inl rfl) e, mA, ⟨od, es, ep, k _ _ (.inr d) e2, c⟩, r⟩
  | own y => obtain ⟨ob, e⟩ := x; exact ⟨ob, k _ _ (.inl rfl) e⟩
  | xd fs => obtain ⟨mA, ⟨od, es, ep, e, c⟩, r⟩ := x; exact ⟨mA, ⟨od, es, ep, k _ _ (.inl rfl) e, c⟩, r⟩
  | rng lo hi => obtain ⟨t, u, v, e⟩ := x; exact ⟨t, u, v, k _ _ (.inl rfl) e⟩
  | frz ob u ih => obtain ⟨e, q⟩ := x; exact ⟨k _ _ (.inl rfl) e, ih q⟩
  | tbl ps =>
    have e : h.get? a = some { cls := .none, data := .fields ps } := x
    show h'.get? a = some { cls := .none, data := .fields ps }
    exact k a _ (.inl rfl) e
  | met f y =>
    have e : h.get? a = some (PySem.W.methodObj (.ref f) (.ref y)) := x
    show h'.get? a = some (PySem.W.methodObj (.ref f) (.ref y))
    exact k a _ (.inl rfl) e
  | ext φ => obtain ⟨p, ⟨o, e⟩, st⟩ := x; exact ⟨st _ _ p fun o q => k _ _ (.inl rfl) q, ⟨o, k _ _ (.inl rfl) e⟩, st⟩
theorem HOk.lt (x : HOk P w H h) (e : H a = some o) : a < h.objs.size := (x a o e).lt
theorem HOk.fresh (x : HOk P w H h) (e : h.objs.size ≤ a) : H a = none := by
  cases q : H a with
  | none => rfl
  | some u => exact absurd (Nat.lt_of_lt_of_le (x.lt q) e) (Nat.lt_irrefl _)
/-- every object of the heap is kept -/
theorem HOk.kept (x : HOk P w H h) (k : ∀ b u, h.get? b = some u → h'.get? b = some u) : HOk P w H h' := fun a o e =>
  (x a o e).stay (fun b u _ q => k b u q) (fun _ q => q) fun _ _ q => q
/-- a new object is laid and tracked -/
theorem HOk.laid (x : HOk P w H h) (k : ∀ b u, h.get? b = some u → h'.get? b = some u) (hp : h.objs.size ≤ a) (new : ObjOk P w (upd H a o) h' a o) : HOk P w (upd H a o) h' := fun b u e => by
  have hn := x.fresh hp
  by_cases hb : b = a
  · subst hb; rw [upd_same] at e; cases e; exact new
  · rw [upd_ne hb] at e
    exact (x b u e).stay (fun c v _ q => k c v q) (fun c q => by rw [upd_ne (ne_of_none q hn)]; exact q) fun c xs q => by rw [upd_ne (ne_of_none q hn)]; exact q
end

/-- what may be read as u: it is u, or a known u -/
def Rd (H : Hp) (a : Addr) (u : HO) : Prop := H a = some u ∨ ∃ o, H a = some (.frz o u)
theorem Rd.of {H : Hp} {a : Addr} {u : HO} (h : H a = some u) : Rd H a u := .inl h
theorem Rd.ok {P : Program} {w : World} {H : Hp} {h : Heap} {a : Addr} {u : HO} (r : Rd H a u) (x : HOk P w H h) : ObjOk P w H h a u := by
  rcases r with r | ⟨o, r⟩
  · exact x a u r
  · obtain ⟨_, q⟩ := x a _ r
    exact q
/-- what may be written -/
def Mut : Option HO → Prop
  | some (.lst _) => True
  | some (.dK _) => True
  | some (.dT _) => True
  | some (.set _ _) => True
  | some (.ins _ _ _) => True
  | some (.ext _) => True
  | _ => False
section
variable {P : Program} {w : World} {H : Hp} {h h' : Heap} {x e : Addr} {o' : HO}
/-- the object at e is changed: x itself, or the dict of the instance x -/
theorem HOk.write (ok : HOk P w H h) (mu : Mut (H x)) (he : e = x ∨ H e = some (.own x)) (k : ∀ b u, b ≠ e → h.get? b = some u → h'.get? b = some u) (heo : ∃ u, h'.get? e = some u)
    (new : ObjOk P w (upd H x o') h' x o') : HOk P w (upd H x o') h' := fun b u q => by
  have nown : ∀ c y, H c = some (.own y) → c ≠ x := fun c y r z => by subst z; rw [r] at mu; exact mu
  have ntup : ∀ c xs, H c = some (.tup xs) → c ≠ x := fun c xs r z => by subst z; rw [r] at mu; exact mu
  by_cases hb : b = x
  · subst hb; rw [upd_same] at q; cases q; exact new
  · rw [upd_ne hb] at q
    by_cases hbe : b = e
    · have q' : H b = some (.own x) := by
        rcases he with z | z
        · exact absurd (hbe.trans z) hb
        · rw [hbe]; exact z
      rw [q] at q'; cases q'
      obtain ⟨v, hv⟩ := heo
      exact ⟨v, by rw [hbe]; exact hv⟩
    · refine (ok b u q).stay (fun c v hc r => k c v ?_ r) (fun c r => by rw [upd_ne (nown c b r)]; exact r) fun c xs r => by rw [upd_ne (ntup c xs r)]; exact r
      rcases hc with rfl | hc
      · exact hbe
      · rintro rfl
        rcases he with z | z
        · exact nown c b hc z
        · rw [hc] at z; cases z; exact hb rfl
end

/-! ### kept unless tracked; of the frames at fs (the callers') the slots may change (an exception that passes writes there); of the records at ex (iterators) nothing is said -/
structure Un (fs ex : List Addr) (H H' : Hp) (h h' : Heap) : Prop where
  keep : ∀ b o, h.get? b = some o → H b = none → b ∉ fs → b ∉ ex → h'.get? b = some o
  slot : ∀ b o, h.get? b = some o → H b = none → b ∈ fs → b ∉ ex → ∃ sl, h'.get? b = some { o with slots := sl }
  free : ∀ b o, h.get? b = some o → H b = none → b ∉ ex → H' b = none
  there : ∀ b o, h.get? b = some o → b ∉ ex → ∃ o', h'.get? b = some o'
  tups : ∀ b xs, H b = some (.tup xs) → H' b = some (.tup xs)
  frzs : ∀ b o u, H b = some (.frz o u) → H' b = some (.frz o u)
  tbls : ∀ b ps, H b = some (.tbl ps) → ∃ more, H' b = some (.tbl (ps ++ more))
section
variable {fs fs' ex ex' : List Addr} {H H1 H2 : Hp} {h h1 h2 h' : Heap} {a x e : Addr} {o : HO}
theorem Un.any (u : Un fs ex H H1 h h1) {b : Addr} {ob : Obj} (q : h.get? b = some ob) (n : H b = none) (hx : b ∉ ex) : ∃ sl, h1.get? b = some { ob with slots := sl } := by
  by_cases hb : b ∈ fs
  · exact u.slot b ob q n hb hx
  · exact ⟨ob.slots, u.keep b ob q n hb hx⟩
theorem Un.trans (a : Un fs ex H H1 h h1) (b : Un fs ex H1 H2 h1 h2) : Un fs ex H H2 h h2 where
  keep := fun c ob q n hc hx => b.keep c ob (a.keep c ob q n hc hx) (a.free c ob q n hx) hc hx
  slot := fun c ob q n hc hx => by
    obtain ⟨sl, e1⟩ := a.slot c ob q n hc hx
    obtain ⟨sl', e2⟩ := b.slot c _ e1 (a.free c ob q n hx) hc hx
    exact ⟨sl', e2⟩
  free := fun c ob q n hx => by
    obtain ⟨o', e1⟩ := a.there c ob q hx
    exact b.free c o' e1 (a.free c ob q n hx) hx
  there := fun c ob q hx => by
    obtain ⟨o', e1⟩ := a.there c ob q hx
    exact b.there c o' e1 hx
  tups := fun c xs q => b.tups c xs (a.tups c xs q)
  frzs := fun c ob xs q => b.frzs c ob xs (a.frzs c ob xs q)
  tbls := fun c ps q => by
    obtain ⟨m1, e1⟩ := a.tbls c ps q
    obtain ⟨m2, e2⟩ := b.tbls c _ e1
    exact ⟨m1 ++ m2, by rw [e2, Array.append_assoc]⟩
theorem Un.kept (k : ∀ b u, h.get? b = some u → h'.get? b = some u) : Un fs ex H H h h' :=
  ⟨fun b ob q _ _ _ => k b ob q, fun b ob q _ _ _ => ⟨ob.slots, k b ob q⟩, fun _ _ _ n _ => n, fun b ob q _ => ⟨ob, k b ob q⟩, fun _ _ q => q, fun _ _ _ q => q, fun _ ps q => ⟨#[], by rw [q]; simp⟩⟩
theorem Un.refl : Un fs ex H H h h := Un.kept fun _ _ q => q
theorem Un.laid (k : ∀ b u, h.get? b = some u → h'.get? b = some u) (hp : h.objs.size ≤ a) (hn : H a = none) : Un fs ex H (upd H a o) h h' where
  keep := fun b u q _ _ _ => k b u q
  slot := fun b u q _ _ _ => ⟨u.slots, k b u q⟩
  free := fun b u q n _ => by rw [upd_ne (Nat.ne_of_lt (Nat.lt_of_lt_of_le (Heap.lt_size q) hp))]; exact n
  there := fun b u q _ => ⟨u, k b u q⟩
  tups := fun b xs q => by rw [upd_ne (ne_of_none q hn)]; exact q
  frzs := fun b u xs q => by rw [upd_ne (ne_of_none q hn)]; exact q
  tbls := fun b ps q => ⟨#[], by rw [upd_ne (ne_of_none q hn), q]; simp⟩
theorem Un.write (mu : Mut (H x)) (he : e = x ∨ H e = some (.own x)) (k : ∀ b u, b ≠ e → h.get? b = some u → h'.get? b = some u) (heo : ∃ u, h'.get? e = some u) : Un fs ex H (upd H x o) h h' := by
  have hx : ∀ b, H b = none → b ≠ x := fun b n z => by subst z; rw [n] at mu; exact mu
  have hb : ∀ b, H b = none → b ≠ e := fun b n z => by
    subst z
    rcases he with r | r
    · exact hx b n r
    · rw [n] at r; cases r
  have hm : ∀ b u, H b = some u → ¬ Mut (some u) → b ≠ x := fun b u q nm z => by subst z; rw [q] at mu; exact nm mu
  refine ⟨fun b u q n _ _ => k b u (hb b n) q, fun b u q n _ _ => ⟨u.slots, k b u (hb b n) q⟩, fun b u q n _ => by rw [upd_ne (hx b n)]; exact n, fun b u q _ => ?_,
    fun b xs q => by rw [upd_ne (hm b _ q fun z => z)]; exact q, fun b u xs q => by rw [upd_ne (hm b _ q fun z => z)]; exact q, fun b ps q => ⟨#[], by rw [upd_ne (hm b _ q fun z => z), q]; simp⟩⟩
  by_cases hbe : b = e
  · subst hbe; exact heo
  · exact ⟨u, k b u hbe q⟩
theorem Un.mono (u : Un fs ex H H1 h h1) (hs : ∀ b ∈ fs, b ∈ fs') (hx : ∀ b ∈ ex, b ∈ ex') : Un fs' ex' H H1 h h1 :=
  ⟨fun b ob q n hb he => u.keep b ob q n (fun z => hb (hs b z)) fun z => he (hx b z), fun _ _ q n _ he => u.any q n fun z => he (hx _ z), fun b ob q n he => u.free b ob q n fun z => he (hx b z), fun b ob q he => u.there b ob q fun z => he (hx b z), u.tups, u.frzs, u.tbls⟩
end

/-! ### the heap without what is tracked -/
def trk (h : Heap) (H : Hp) : List Addr := (List.range h.objs.size).filter fun a => (H a).isSome
def hidT (h : Heap) (H : Hp) : Heap := PySem.W.hideAll h (trk h H)
theorem hidT_size (h : Heap) (H : Hp) : (hidT h H).objs.size = h.objs.size := PySem.W.hideAll_size _ _
theorem hidT_get {h : Heap} {H : Hp} {b : Addr} {o : Obj} (e : h.get? b = some o) (n : H b = none) : (hidT h H).get? b = some o :=
  PySem.W.hideAll_get _ e fun hm => by
    have q : (H b).isSome = true := (List.mem_filter.mp hm).2
    rw [n] at q; simp at q
theorem of_hidT {h : Heap} {H : Hp} {b : Addr} {o : Obj} (e : (hidT h H).get? b = some o) : h.get? b = some o ∧ H b = none := by
  have e' : h.get? b = some o := PySem.W.of_hideAll (trk h H) e
  refine ⟨e', ?_⟩
  cases q : H b with
  | none => rfl
  | some x =>
    have hm : b ∈ trk h H := List.mem_filter.mpr ⟨List.mem_range.mpr (Heap.lt_size e'), by simp [q]⟩
    have z : (hidT h H).get? b = none := PySem.W.hideAll_none (trk h H) hm
    rw [z] at e; cases e

/-! ### OpenK's ledger, filled with every new object but one -/
def allNews (g h : Heap) (L : Addr) : List (Addr × Obj) := (List.range h.objs.size).filterMap fun a => if a = L ∨ (g.get? a).isSome = true then none else (h.get? a).map fun o => (a, o)
def rest (g h : Heap) (L d : Addr) : List (Addr × Obj) := (allNews g h L).filter fun p => decide (p.1 ≠ d)
end L2

namespace L2
open PySem PySem.Spec PyProof.Rows

/-- the module's facts, over the base: the heap at the law's entry without what is tracked there -/
structure Mod (K : PySem.W.Frag) (mg : Str → Option Value) (base : Heap) : Prop where
  kin : K.In base
  glob : base.Ns mainGlobals mg
  blt : ∃ mb, base.Ns builtinsNs mb ∧ ∀ x : Str, x ≠ "__name__" → mb x = bootBuiltins x
  nolimit : base.NoLimit

/-- the context: a def's body (or a comprehension's block) running. base: fixed through the whole law; s₀, H₀: the entry; outer: the frames whose slots others may change (a def's callers); stack: all frames that run;
   ex: iterators that were made ahead of the entry and are walked here (a comprehension's); fn: the names whose cells were made at the entry (a def: all; a comprehension's block: its own); calm: not within an except suite; pn: pins that every state bears; xe: what is wanted of an exception that leaves the code -/
structure Cx where
  prog : Program
  w : World
  K : PySem.W.Frag
  mg : Str → Option Value
  base : Heap
  A : Around
  N : List Str
  s_0 : Shared
  H_0 : Hp
  env : Env
  outer : List Env
  stack : List Env
  ex : List Addr
  fn : Str → Bool
  calm : Bool
  pn : List (Addr × Obj)
  xe : Value → Shared → Prop
/-- the callers' frames -/
def frs (l : List Env) : List Addr := l.filterMap (·.frame)
abbrev Cx.fs (X : Cx) : List Addr := frs X.outer

def Vis (sc : Scope) (x : Str) : Prop := sc.names.lookup x = some .local ∨ sc.names.lookup x = some .cell ∨ sc.names.lookup x = some .free
def Loc (sc : Scope) (x : Str) : Prop := sc.names.lookup x = some .local ∨ sc.names.lookup x = some .cell
def Look (env : Env) (h : Heap) (m : Str → Option Value) (x : Str) (u : Value) : Prop :=
  (env.kindOf x = some .local ∧ m x = some u) ∨ ((env.kindOf x = some .cell ∨ env.kindOf x = some .free) ∧ ∃ c, env.cells.lookup x = some c ∧ h.IsCell c (some u))

structure Cx.Ok (X : Cx) : Prop where
  mod : Mod X.K X.mg X.base
  kind : X.env.scope.kind = .function
  glob : X.env.globals = mainGlobals
  blt : X.env.builtins = builtinsNs
  above : X.s_0.heap.objs.size ≤ X.env.locals
  inj : ∀ x y c, X.env.cells.lookup x = some c → X.env.cells.lookup y = some c → x = y
  has : ∀ x, (X.env.kindOf x = some .cell ∨ X.env.kindOf x = some .free) → ∃ c, X.env.cells.lookup x = some c
  cab : ∀ x c, X.fn x = true → X.env.cells.lookup x = some c → X.s_0.heap.objs.size ≤ c
  hd : X.calm = true → X.A.handled = none
  frames : X.A.frames = some X.stack
  stk : X.stack = X.outer ∨ (X.stack = X.env :: X.outer ∧ X.env.frame = some X.env.locals)
  exf : ∀ b ∈ X.ex, b ≠ X.env.locals ∧ ∀ x c, X.env.cells.lookup x = some c → c ≠ b
  bs : ∀ b o, X.base.get? b = some o → X.s_0.heap.get? b = some o ∧ X.H_0 b = none
  bsz : X.base.objs.size ≤ X.s_0.heap.objs.size
  noex : ∀ b o, X.base.get? b = some o → b ∉ X.ex
  exfs : ∀ b ∈ X.ex, b ∉ X.fs
  funs : X.s_0.heap.FunFrames X.base X.outer
  frf : ∀ b ∈ X.fs, X.H_0 b = none

structure Inv (X : Cx) (pins : List (Addr × Obj)) (σ : List (Option V)) (H : Hp) (s : Shared) : Prop where
  ok : X.Ok
  os : s.os = X.s_0.os
  bare : AllBare s.gens
  base : Un X.fs X.ex X.H_0 H X.s_0.heap s.heap
  loc : ∃ m, s.heap.Ns X.env.locals m ∧ ∀ (i : Nat) (x : Str) (v : V), X.N[i]? = some x → σ[i]? = some (some v) → Vis X.env.scope x → ∃ u, RelV v u ∧ Look X.env s.heap m x u
  cell : ∀ x c, X.env.cells.lookup x = some c → ∃ v, s.heap.IsCell c v
  free : H X.env.locals = none
  freeC : ∀ x c, X.env.cells.lookup x = some c → H c = none
  pin : ∀ p ∈ X.pn ++ pins, s.heap.get? p.1 = some p.2 ∧ H p.1 = none ∧ p.1 ≠ X.env.locals ∧ p.1 ∉ X.fs ∧ ∀ v, p.2.data ≠ .cell v
  hok : HOk X.prog X.w H s.heap
  len : σ.length = X.N.length

section
variable {X : Cx} {pins : List (Addr × Obj)} {σ : List (Option V)} {H H' : Hp} {s : Shared} {h' : Heap}

theorem Cx.Ok.nofr (ok : X.Ok) {b : Addr} {o : Obj} (e : X.base.get? b = some o) : b ∉ X.fs := fun hb => by
  have := (ok.funs.mem hb).1
  rw [e] at this; cases this
theorem Inv.bs (I : Inv X pins σ H s) : ∀ b o, X.base.get? b = some o → s.heap.get? b = some o ∧ H b = none := fun b o e =>
  ⟨I.base.keep b o (I.ok.bs b o e).1 (I.ok.bs b o e).2 (I.ok.nofr e) (I.ok.noex b o e), I.base.free b o (I.ok.bs b o e).1 (I.ok.bs b o e).2 (I.ok.noex b o e)⟩
theorem Inv.bk (I : Inv X pins σ H s) : ∀ b o, X.base.get? b = some o → s.heap.get? b = some o := fun b o e => (I.bs b o e).1
theorem Inv.mod (I : Inv X pins σ H s) : Mod X.K X.mg X.base := I.ok.mod
theorem Inv.kIn (I : Inv X pins σ H s) : X.K.In s.heap := I.ok.mod.kin.keeps I.bk
theorem Inv.nolimit (I : Inv X pins σ H s) : s.heap.NoLimit := I.ok.mod.nolimit.keeps I.bk
/-- the frame over the base: for OpenK's rules (K.In X.base is I.mod.kin) -/
theorem Inv.fr (I : Inv X pins σ H s) : ∃ m, Fr X.base X.env.locals s.heap m :=
  let ⟨m, hn, _⟩ := I.loc
  ⟨m, hn, I.bk, Nat.le_trans I.ok.bsz I.ok.above⟩
theorem Inv.lt (I : Inv X pins σ H s) : X.env.locals < s.heap.objs.size := let ⟨_, hn, _⟩ := I.loc; hn.lt
theorem Inv.sz (I : Inv X pins σ H s) : X.s_0.heap.objs.size ≤ s.heap.objs.size := Nat.le_trans I.ok.above (Nat.le_of_lt I.lt)
theorem Inv.nofs (I : Inv X pins σ H s) {a : Addr} (h : s.heap.objs.size ≤ a) : a ∉ X.fs := fun hb => by
  obtain ⟨_, o, ho, _⟩ := I.ok.funs.mem hb
  exact absurd (Nat.lt_of_lt_of_le (Heap.lt_size ho) (Nat.le_trans I.sz h)) (Nat.lt_irrefl _)
theorem Inv.cne (I : Inv X pins σ H s) : ∀ x c, X.env.cells.lookup x = some c → c ≠ X.env.locals := fun x c e z => by
  obtain ⟨v, o, ho, hd⟩ := I.cell x c e
  obtain ⟨m, ⟨o', es, ep, ho', hd', _⟩, _⟩ := I.loc
  rw [z, ho'] at ho; cases ho; rw [hd'] at hd; cases hd
theorem Inv.funs (I : Inv X pins σ H s) : s.heap.FunFrames X.base X.outer := by
  have all : ∀ (l : List Env), (∀ b ∈ frs l, b ∈ X.fs) → X.s_0.heap.FunFrames X.base l → s.heap.FunFrames X.base l := by
    intro l
    induction l with
    | nil => intro _ _; trivial
    | cons env r ih =>
      intro hs hl
      obtain ⟨hk, ⟨L, o, hf, hn, ho, hd⟩, hr⟩ := hl
      have hL : L ∈ X.fs := hs L (by unfold frs; rw [List.filterMap_cons, hf]; exact List.mem_cons_self)
      obtain ⟨sl, e⟩ := I.base.slot L o ho (I.ok.frf L hL) hL fun z => I.ok.exfs L z hL
      exact ⟨hk, ⟨L, _, hf, hn, e, hd⟩, ih (fun b hb => hs b (by unfold frs; rw [List.filterMap_cons, hf]; exact List.mem_cons_of_mem _ hb)) hr⟩
  exact all X.outer (fun _ hb => hb) I.ok.funs

/-- the frames that run, for a call -/
theorem Inv.stack (I : Inv X pins σ H s) : s.heap.FunFrames X.base X.stack := by
  rcases I.ok.stk with e | ⟨e, hf⟩
  · rw [e]; exact I.funs
  · rw [e]
    obtain ⟨m, hn, _⟩ := I.loc
    refine .cons (by rw [I.ok.kind]; decide) hf hn ?_ I.funs
    exact Heap.get?_none_of_le (Nat.le_trans I.ok.bsz I.ok.above)
theorem Inv.stkSub (I : Inv X pins σ H s) : ∀ b ∈ frs X.stack, b ∈ X.env.locals :: X.fs := fun b hb => by
  rcases I.ok.stk with e | ⟨e, hf⟩
  · rw [e] at hb; exact List.mem_cons_of_mem _ hb
  · rw [e] at hb
    unfold frs at hb
    rw [List.filterMap_cons, hf] at hb
    exact hb
theorem Inv.stkFree (I : Inv X pins σ H s) : ∀ b ∈ frs X.stack, H b = none := fun b hb => by
  rcases List.mem_cons.mp (I.stkSub b hb) with e | hb
  · rw [e]; exact I.free
  · obtain ⟨_, o, ho, _⟩ := I.ok.funs.mem hb
    exact I.base.free b o ho (I.ok.frf b hb) fun z => I.ok.exfs b z hb

/-- THE STEP: the untracked objects but the frame and the records at ch are kept (the callers' frames up to slots), the frame's map is kept, the new abstract heap is held -/
theorem Inv.step {g' : Array GenState} {t' : Nat} {d' : Drawn} {ch : List Addr} (I : Inv X pins σ H s)
    (hch : ∀ b ∈ ch, (b ∈ X.ex ∨ X.s_0.heap.objs.size ≤ b) ∧ b ≠ X.env.locals ∧ (∀ x c, X.env.cells.lookup x = some c → c ≠ b) ∧ ∀ p ∈ X.pn ++ pins, p.1 ≠ b)
    (keep : ∀ b o, b ≠ X.env.locals → b ∉ X.fs → b ∉ ch → s.heap.get? b = some o → H b = none → h'.get? b = some o)
    (slot : ∀ b o, b ≠ X.env.locals → b ∈ X.fs → b ∉ ch → s.heap.get? b = some o → H b = none → ∃ sl, h'.get? b = some { o with slots := sl }) (free : ∀ b o, b ∉ ch → s.heap.get? b = some o → H b = none → H' b = none)
    (there : ∀ b o, b ∉ ch → s.heap.get? b = some o → ∃ o', h'.get? b = some o')
    (tups : ∀ b xs, H b = some (.tup xs) → H' b = some (.tup xs)) (frzs : ∀ b o u, H b = some (.frz o u) → H' b = some (.frz o u)) (tbls : ∀ b ps, H b = some (.tbl ps) → ∃ more, H' b = some (.tbl (ps ++ more)))
    (ns : ∀ m, s.heap.Ns X.env.locals m → h'.Ns X.env.locals m) (hok : HOk X.prog X.w H' h') (hg : AllBare g') :
    Inv X pins σ H' { s with heap := h', gens := g', drawn := d', toks := t' } := by
  have neL : ∀ b o, X.s_0.heap.get? b = some o → b ≠ X.env.locals := fun b o e => Nat.ne_of_lt (Nat.lt_of_lt_of_le (Heap.lt_size e) I.ok.above)
  have neC : ∀ b o, X.s_0.heap.get? b = some o → b ∉ X.ex → b ∉ ch := fun b o e hx hb => by
    rcases (hch b hb).1 with z | z
    · exact hx z
    · exact absurd (Nat.lt_of_lt_of_le (Heap.lt_size e) z) (Nat.lt_irrefl _)
  have cellK : ∀ x c, X.env.cells.lookup x = some c → ∀ v, s.heap.IsCell c v → h'.IsCell c v := fun x c e v ⟨o, ho, hd⟩ => by
    have nch : c ∉ ch := fun z => (hch c z).2.2.1 x c e rfl
    by_cases hc : c ∈ X.fs
    · obtain ⟨sl, q⟩ := slot c o (I.cne x c e) hc nch ho (I.freeC x c e)
      exact ⟨_, q, hd⟩
    · exact ⟨o, keep c o (I.cne x c e) hc nch ho (I.freeC x c e), hd⟩
  refine ⟨I.ok, I.os, hg, ⟨fun b o e n hb hx => ?_, fun b o e n hb hx => ?_, fun b o e n hx => ?_, fun b o e hx => ?_, fun b xs e => tups b xs (I.base.tups b xs e), fun b o xs e => frzs b o xs (I.base.frzs b o xs e), fun b ps e => ?_⟩, ?_, fun x c e => ?_, ?_, fun x c e => ?_, fun p hp => ?_, hok, I.len⟩
  · exact keep b o (neL b o e) hb (neC b o e hx) (I.base.keep b o e n hb hx) (I.base.free b o e n hx)
  · obtain ⟨sl, e1⟩ := I.base.slot b o e n hb hx
    obtain ⟨sl', e2⟩ := slot b _ (neL b o e) hb (neC b o e hx) e1 (I.base.free b o e n hx)
    exact ⟨sl', e2⟩
  · obtain ⟨o', e1⟩ := I.base.there b o e hx
    exact free b o' (neC b o e hx) e1 (I.base.free b o e n hx)
  · obtain ⟨o', e1⟩ := I.base.there b o e hx
    exact there b o' (neC b o e hx) e1
  · obtain ⟨m1, e1⟩ := I.base.tbls b ps e
    obtain ⟨m2, e2⟩ := tbls b _ e1
    exact ⟨m1 ++ m2, by rw [e2, Array.append_assoc]⟩
  · obtain ⟨m, hn, hl⟩ := I.loc
    refine ⟨m, ns m hn, fun i x v e1 e2 e3 => ?_⟩
    obtain ⟨u, r, l⟩ := hl i x v e1 e2 e3
    refine ⟨u, r, ?_⟩
    rcases l with l | ⟨k, c, e, z⟩
    · exact .inl l
    · exact .inr ⟨k, c, e, cellK x c e _ z⟩
  · obtain ⟨v, z⟩ := I.cell x c e
    exact ⟨v, cellK x c e v z⟩
  · obtain ⟨m, ⟨o, _, _, ho, _⟩, _⟩ := I.loc
    exact free _ o (fun z => (hch _ z).2.1 rfl) ho I.free
  · obtain ⟨v, o, ho, hd⟩ := I.cell x c e
    exact free c o (fun z => (hch c z).2.2.1 x c e rfl) ho (I.freeC x c e)
  · obtain ⟨e, n, ne, nf, d⟩ := I.pin p hp
    have nch : p.1 ∉ ch := fun z => (hch p.1 z).2.2.2 p hp rfl
    exact ⟨keep p.1 p.2 ne nf nch e n, free p.1 p.2 nch e n, ne, nf, d⟩
/-- .. where the frame's own object is kept too -/
theorem Inv.un {t' : Nat} (I : Inv X pins σ H s) (u : Un X.fs [] H H' s.heap h') (hok : HOk X.prog X.w H' h') : Inv X pins σ H' { s with heap := h', toks := t' } := by
  obtain ⟨m, ⟨o, es, ep, ho, r⟩, _⟩ := id I.loc
  obtain ⟨sl, hL⟩ := u.any ho I.free (by simp)
  exact I.step (g' := s.gens) (d' := s.drawn) (ch := []) (fun _ z => nomatch z) (fun b o _ hb _ e n => u.keep b o e n hb (by simp)) (fun b o _ hb _ e n => u.slot b o e n hb (by simp)) (fun b o _ e n => u.free b o e n (by simp)) (fun b o _ e => u.there b o e (by simp)) u.tups u.frzs u.tbls (fun m' hm => by
    obtain ⟨o', es', ep', ho', r'⟩ := hm
    rw [ho] at ho'; cases ho'
    exact ⟨_, es', ep', hL, r'⟩) hok I.bare
/-- behind a call (or a comprehension's block): the slots of this frame may have changed too, the records at ch may have turned -/
theorem Inv.call {g' : Array GenState} {t' : Nat} {d' : Drawn} {ch : List Addr} (I : Inv X pins σ H s) (u : Un (frs X.stack) ch H H' s.heap h') (hok : HOk X.prog X.w H' h') (hg : AllBare g')
    (hch : ∀ b ∈ ch, (b ∈ X.ex ∨ X.s_0.heap.objs.size ≤ b) ∧ b ≠ X.env.locals ∧ (∀ x c, X.env.cells.lookup x = some c → c ≠ b) ∧ ∀ p ∈ X.pn ++ pins, p.1 ≠ b) :
    Inv X pins σ H' { s with heap := h', gens := g', drawn := d', toks := t' } := by
  obtain ⟨m, ⟨o, es, ep, ho, r⟩, _⟩ := id I.loc
  obtain ⟨sl, hL⟩ := u.any ho I.free fun z => (hch _ z).2.1 rfl
  exact I.step (ch := ch) hch (fun b o hL hb hc e n => u.keep b o e n (fun z => (List.mem_cons.mp (I.stkSub b z)).elim hL hb) hc) (fun b o _ _ hc e n => u.any e n hc) (fun b o hc e n => u.free b o e n hc) (fun b o hc e => u.there b o e hc) u.tups u.frzs u.tbls (fun m' hm => by
    obtain ⟨o', es', ep', ho', r'⟩ := hm
    rw [ho] at ho'; cases ho'
    exact ⟨_, es', ep', hL, r'⟩) hok hg
/-- an untracked record of ours (an iterator) has turned -/
theorem Inv.turned {t' : Nat} {it : Addr} (I : Inv X pins σ H s) (k : ∀ b o, b ≠ it → s.heap.get? b = some o → h'.get? b = some o) (hn : H it = none) (hL : it ≠ X.env.locals)
    (h1 : it ∈ X.ex ∨ X.s_0.heap.objs.size ≤ it) (h2 : ∀ x c, X.env.cells.lookup x = some c → c ≠ it) (h3 : ∀ p ∈ X.pn ++ pins, p.1 ≠ it) : Inv X pins σ H { s with heap := h', toks := t' } := by
  have nit : ∀ b u, H b = some u → b ≠ it := fun b u e z => by rw [z, hn] at e; cases e
  refine I.step (g' := s.gens) (d' := s.drawn) (ch := [it]) (fun b hb => ?_) (fun b o _ _ hc e _ => k b o (fun z => hc (by simp [z])) e) (fun b o _ _ hc e _ => ⟨o.slots, k b o (fun z => hc (by simp [z])) e⟩) (fun _ _ _ _ n => n)
    (fun b o hc e => ⟨o, k b o (fun z => hc (by simp [z])) e⟩) (fun _ _ e => e) (fun _ _ _ e => e) (fun b ps e => ⟨#[], by rw [e]; simp⟩) (fun m hm => ?_) (fun b u e => ?_) I.bare
  · have e : b = it := by simpa using hb
    subst e
    exact ⟨h1, hL, h2, h3⟩
  · obtain ⟨o, es, ep, ho, r⟩ := hm
    exact ⟨o, es, ep, k _ o (Ne.symm hL) ho, r⟩
  · refine (I.hok b u e).stay (fun c v hc q => k c v ?_ q) (fun _ q => q) fun _ _ q => q
    rcases hc with z | z
    · rw [z]; exact nit b u e
    · exact nit c _ z
theorem Inv.tok (I : Inv X pins σ H s) (t : Nat) : Inv X pins σ H { s with toks := t } := I.un (h' := s.heap) (t' := t) Un.refl I.hok
/-- all objects kept -/
theorem Inv.kept {t' : Nat} (I : Inv X pins σ H s) (k : ∀ b u, s.heap.get? b = some u → h'.get? b = some u) : Inv X pins σ H { s with heap := h', toks := t' } := I.un (Un.kept k) (I.hok.kept k)
/-- a new object laid and tracked -/
theorem Inv.laid {a : Addr} {o : HO} {t' : Nat} (I : Inv X pins σ H s) (k : ∀ b u, s.heap.get? b = some u → h'.get? b = some u) (hp : s.heap.objs.size ≤ a) (new : ObjOk X.prog X.w (upd H a o) h' a o) :
    Inv X pins σ (upd H a o) { s with heap := h', toks := t' } := I.un (Un.laid k hp (I.hok.fresh hp)) (I.hok.laid k hp new)
/-- an object written -/
theorem Inv.write {x e : Addr} {o : HO} {t' : Nat} (I : Inv X pins σ H s) (mu : Mut (H x)) (he : e = x ∨ H e = some (.own x)) (k : ∀ b u, b ≠ e → s.heap.get? b = some u → h'.get? b = some u) (heo : ∃ u, h'.get? e = some u)
    (new : ObjOk X.prog X.w (upd H x o) h' x o) : Inv X pins σ (upd H x o) { s with heap := h', toks := t' } := I.un (Un.write mu he k heo) (I.hok.write mu he k heo new)
/-- forgetting slots, pins -/
theorem Inv.weak {σ' : List (Option V)} (I : Inv X pins σ H s) (hl : σ'.length = σ.length) (w : ∀ (i : Nat) v, σ'[i]? = some (some v) → σ[i]? = some (some v)) : Inv X pins σ' H s :=
  ⟨I.ok, I.os, I.bare, I.base, let ⟨m, hn, hl'⟩ := I.loc; ⟨m, hn, fun i x v e1 e2 e3 => hl' i x v e1 (w i v e2) e3⟩, I.cell, I.free, I.freeC, I.pin, I.hok, hl.trans I.len⟩
theorem Inv.pins_of {pins' : List (Addr × Obj)} (I : Inv X pins σ H s) (h : ∀ p ∈ pins', s.heap.get? p.1 = some p.2 ∧ H p.1 = none ∧ p.1 ≠ X.env.locals ∧ p.1 ∉ X.fs ∧ ∀ v, p.2.data ≠ .cell v) : Inv X pins' σ H s :=
  ⟨I.ok, I.os, I.bare, I.base, I.loc, I.cell, I.free, I.freeC, fun p hp => (List.mem_append.mp hp).elim (fun z => I.pin p (List.mem_append_left _ z)) (h p), I.hok, I.len⟩

theorem nodup_ix {N : List Str} (hN : N.Nodup) {i j : Nat} {x : Str} (a : N[i]? = some x) (b : N[j]? = some x) : i = j := by
  obtain ⟨h1, e1⟩ := List.getElem?_eq_some_iff.mp a
  obtain ⟨h2, e2⟩ := List.getElem?_eq_some_iff.mp b
  exact (List.getElem_inj hN).mp (e1.trans e2.symm)

/-- a name is stored; what changed -/
theorem store_ok2 {M : Model} {A : Around} {E : Value → Shared → Prop} {i : Nat} {x : Str} {v : V} {u : Value} {Q : Unit → Shared → Prop} (I : Inv X pins σ H s) (hN : X.N.Nodup) (hi : X.N[i]? = some x) (hx : Loc X.env.scope x) (r : RelV v u)
    (h : ∀ s', Inv X pins (σ.set i (some v)) H s' → (∃ a, Heap.SameBut a s.heap s'.heap ∧ (a = X.env.locals ∨ X.env.cells.lookup x = some a)) → Q () s') (hf : X.fn x = true ∨ X.env.scope.names.lookup x = some .local := by first | exact .inl rfl | exact .inr rfl | assumption) : wpAny M A (storeName X.env x u) Q E s := by
  obtain ⟨m, hn, hl⟩ := id I.loc
  have hcls : (X.env.scope.kind == .class || (X.env.scope.kind == .module && X.env.locals != X.env.globals)) = false := by rw [I.ok.kind]; rfl
  have hiσ : i < σ.length := by rw [I.len]; exact (List.getElem?_eq_some_iff.mp hi).1
  have cne := I.cne
  have tracked : ∀ {a : Addr} {h' : Heap}, (∃ o, s.heap.get? a = some o ∧ H a = none) → Heap.SameBut a s.heap h' → HOk X.prog X.w H h' := fun {a h'} ha hs b ob e => by
    obtain ⟨_, _, hfree⟩ := ha
    refine (I.hok b ob e).stay (fun c w' hc q => (hs.2 c ?_).trans q) (fun _ q => q) fun _ _ q => q
    rintro rfl
    rcases hc with rfl | hc
    · rw [hfree] at e; cases e
    · rw [hfree] at hc; cases hc
  rcases hx with hk | hk
  · refine wpAny_storeName_local hk hn (fun h' hn' hs => ?_) hcls
    obtain ⟨oL, _, _, hoL, _⟩ := id hn
    refine h _ ⟨I.ok, I.os, I.bare, ⟨fun b o e n hb hx => ?_, fun b o e n hb hx => ?_, I.base.free, fun b o e hx => ?_, I.base.tups, I.base.frzs, I.base.tbls⟩, ⟨_, hn', fun j y v' e1 e2 e3 => ?_⟩, fun y c e => ?_, I.free, I.freeC, fun p hp => ?_, tracked ⟨oL, hoL, I.free⟩ hs, by simpa using I.len⟩ ⟨_, hs, .inl rfl⟩
    · exact (hs.2 b (Nat.ne_of_lt (Nat.lt_of_lt_of_le (Heap.lt_size e) I.ok.above))).trans (I.base.keep b o e n hb hx)
    · obtain ⟨sl, e1⟩ := I.base.slot b o e n hb hx
      exact ⟨sl, (hs.2 b (Nat.ne_of_lt (Nat.lt_of_lt_of_le (Heap.lt_size e) I.ok.above))).trans e1⟩
    · obtain ⟨o', e1⟩ := I.base.there b o e hx
      exact ⟨o', (hs.2 b (Nat.ne_of_lt (Nat.lt_of_lt_of_le (Heap.lt_size e) I.ok.above))).trans e1⟩
    · by_cases hj : j = i
      · subst hj
        rw [hi] at e1; cases e1
        rw [List.getElem?_set_self hiσ] at e2
        cases e2
        exact ⟨u, r, .inl ⟨hk, by simp⟩⟩
      · rw [List.getElem?_set_ne (Ne.symm hj)] at e2
        obtain ⟨u', r', q⟩ := hl j y v' e1 e2 e3
        refine ⟨u', r', ?_⟩
        rcases q with ⟨k, e⟩ | ⟨k, c, e, z⟩
        · refine .inl ⟨k, ?_⟩
          have : y ≠ x := fun e => hj (nodup_ix hN e1 (e ▸ hi))
          simp [this, e]
        · exact .inr ⟨k, c, e, z.sameBut hs (cne y c e)⟩
    · obtain ⟨w', z⟩ := I.cell y c e
      exact ⟨w', z.sameBut hs (cne y c e)⟩
    · obtain ⟨e, n, ne, nf, d⟩ := I.pin p hp
      exact ⟨(hs.2 p.1 ne).trans e, n, ne, nf, d⟩
  · have hfn : X.fn x = true := by
      rcases hf with z | z
      · exact z
      · rw [z] at hk; cases hk
    obtain ⟨c, hc⟩ := I.ok.has x (.inl hk)
    obtain ⟨w', z⟩ := I.cell x c hc
    refine wpAny_storeName_cell I.ok.kind hk hc z (fun h' hc' hs => ?_)
    obtain ⟨oc, hoc, hocd⟩ := id z
    refine h { s with heap := h' } ⟨I.ok, I.os, I.bare, ⟨fun b o e n hb hx => ?_, fun b o e n hb hx => ?_, I.base.free, fun b o e hx => ?_, I.base.tups, I.base.frzs, I.base.tbls⟩, ⟨m, hn.sameBut hs (Ne.symm (cne x c hc)), fun j y v' e1 e2 e3 => ?_⟩, fun y c' e => ?_, I.free, I.freeC, fun p hp => ?_, tracked ⟨oc, hoc, I.freeC x c hc⟩ hs, by simpa using I.len⟩ ⟨c, hs, .inr hc⟩
    · exact (hs.2 b (Nat.ne_of_lt (Nat.lt_of_lt_of_le (Heap.lt_size e) (I.ok.cab x c hfn hc)))).trans (I.base.keep b o e n hb hx)
    · obtain ⟨sl, e1⟩ := I.base.slot b o e n hb hx
      exact ⟨sl, (hs.2 b (Nat.ne_of_lt (Nat.lt_of_lt_of_le (Heap.lt_size e) (I.ok.cab x c hfn hc)))).trans e1⟩
    · obtain ⟨o', e1⟩ := I.base.there b o e hx
      exact ⟨o', (hs.2 b (Nat.ne_of_lt (Nat.lt_of_lt_of_le (Heap.lt_size e) (I.ok.cab x c hfn hc)))).trans e1⟩
    · by_cases hj : j = i
      · subst hj
        rw [hi] at e1; cases e1
        rw [List.getElem?_set_self hiσ] at e2
        cases e2
        exact ⟨u, r, .inr ⟨.inl hk, c, hc, hc'⟩⟩
      · rw [List.getElem?_set_ne (Ne.symm hj)] at e2
        obtain ⟨u', r', q⟩ := hl j y v' e1 e2 e3
        refine ⟨u', r', ?_⟩
        rcases q with q | ⟨k, c', e, z'⟩
        · exact .inl q
        · refine .inr ⟨k, c', e, z'.sameBut hs ?_⟩
          rintro rfl
          exact hj (nodup_ix hN e1 (I.ok.inj _ _ _ e hc ▸ hi))
    · by_cases hcc : c' = c
      · subst hcc; exact ⟨_, hc'⟩
      · obtain ⟨w2, z2⟩ := I.cell y c' e
        exact ⟨w2, z2.sameBut hs hcc⟩
    · obtain ⟨e, n, ne, nf, d⟩ := I.pin p hp
      refine ⟨(hs.2 p.1 ?_).trans e, n, ne, nf, d⟩
      intro q
      rw [q, hoc] at e
      have q' : oc = p.2 := Option.some.inj e
      exact d w' (by rw [← q']; exact hocd)
theorem store_ok {M : Model} {A : Around} {E : Value → Shared → Prop} {i : Nat} {x : Str} {v : V} {u : Value} {Q : Unit → Shared → Prop} (I : Inv X pins σ H s) (hN : X.N.Nodup) (hi : X.N[i]? = some x) (hx : Loc X.env.scope x) (r : RelV v u)
    (h : ∀ s', Inv X pins (σ.set i (some v)) H s' → Q () s') (hf : X.fn x = true ∨ X.env.scope.names.lookup x = some .local := by first | exact .inl rfl | exact .inr rfl | assumption) : wpAny M A (storeName X.env x u) Q E s :=
  store_ok2 I hN hi hx r (fun s' I' _ => h s' I') hf
/-- behind a call or a block, the state as it is -/
theorem Inv.call' {s' : Shared} {ch : List Addr} (I : Inv X pins σ H s) (ho : s'.os = s.os) (u : Un (frs X.stack) ch H H' s.heap s'.heap) (hok : HOk X.prog X.w H' s'.heap) (hg : AllBare s'.gens)
    (hch : ∀ b ∈ ch, (b ∈ X.ex ∨ X.s_0.heap.objs.size ≤ b) ∧ b ≠ X.env.locals ∧ (∀ x c, X.env.cells.lookup x = some c → c ≠ b) ∧ ∀ p ∈ X.pn ++ pins, p.1 ≠ b) : Inv X pins σ H' s' := by
  obtain ⟨h', g', d', t', o'⟩ := s'
  have e : o' = s.os := ho
  subst e
  exact I.call (g' := g') (t' := t') (d' := d') u hok hg hch
end

/-! ### the judgements -/
/-- an exception: its class, its own dict's address (where it has one), the abstract heap behind it -/
abbrev XK := Value → Option Addr → Hp → Prop
abbrev St := List (Option V)
abbrev VK := V → Hp → Prop
/-- an expression's reading; a test's; an argument list's -/
abbrev TE := St → Hp → VK → Prop
abbrev TT := St → Hp → (Bool → Hp → Prop) → Prop
abbrev TA := St → Hp → (List V → Hp → Prop) → Prop
/-- what is wanted behind a statement -/
structure Ends where
  nx : St → Hp → Prop
  rt : VK
  bk : St → Hp → Prop := fun _ _ => False
  ct : St → Hp → Prop := fun _ _ => False
abbrev TS := Ends → St → Hp → Prop

def EP (X : Cx) (pins : List (Addr × Obj)) (σ : St) (Q : VK) (u : Value) (s' : Shared) : Prop := ∃ v H', Inv X pins σ H' s' ∧ RelV v u ∧ Q v H'
def TP (X : Cx) (pins : List (Addr × Obj)) (σ : St) (Q : Bool → Hp → Prop) (b : Bool) (s' : Shared) : Prop := ∃ H', Inv X pins σ H' s' ∧ Q b H'
def AP (X : Cx) (pins : List (Addr × Obj)) (σ : St) (Q : List V → Hp → Prop) (us : List Value) (s' : Shared) : Prop := ∃ vs H', Inv X pins σ H' s' ∧ Vals vs us ∧ Q vs H'
def SP (X : Cx) (pins : List (Addr × Obj)) (D : Ends) (f : Flow) (s' : Shared) : Prop :=
  match f with
  | .next => ∃ σ' H', Inv X pins σ' H' s' ∧ D.nx σ' H'
  | .brk => ∃ σ' H', Inv X pins σ' H' s' ∧ D.bk σ' H'
  | .cont => ∃ σ' H', Inv X pins σ' H' s' ∧ D.ct σ' H'
  | .ret u => ∃ v σ' H', Inv X pins σ' H' s' ∧ RelV v u ∧ D.rt v H'

def PE (X : Cx) (e : Expr) (t : TE) : Prop :=
  ∀ (pins : List (Addr × Obj)) (s : Shared) (σ : St) (H : Hp) (Q : VK), Inv X pins σ H s → t σ H Q → wpAny (model X.prog X.w) X.A (eval e X.env) (EP X pins σ Q) X.xe s
def PT (X : Cx) (e : Expr) (t : TT) : Prop :=
  ∀ (pins : List (Addr × Obj)) (s : Shared) (σ : St) (H : Hp) (Q : Bool → Hp → Prop), Inv X pins σ H s → t σ H Q → wpAny (model X.prog X.w) X.A (isTrue e X.env (eval e X.env)) (TP X pins σ Q) X.xe s
/-- a test whatever its 'whole' is (and, or) -/
def PW (X : Cx) (e : Expr) (t : TT) : Prop :=
  ∀ (whole : Sem Value) (pins : List (Addr × Obj)) (s : Shared) (σ : St) (H : Hp) (Q : Bool → Hp → Prop), Inv X pins σ H s → t σ H Q → wpAny (model X.prog X.w) X.A (isTrue e X.env whole) (TP X pins σ Q) X.xe s
theorem PW.pt {X : Cx} {e : Expr} {t : TT} (h : PW X e t) : PT X e t := h _
/-- an argument list (no star), from the left -/
def PA (X : Cx) (es : List Expr) (t : TA) : Prop :=
  ∀ (pos : Pos) (pins : List (Addr × Obj)) (s : Shared) (σ : St) (H : Hp) (Q : List V → Hp → Prop), Inv X pins σ H s → t σ H Q → wpAny (model X.prog X.w) X.A (spliced (backTo pos (starEach es X.env))) (AP X pins σ Q) X.xe s
def PS (X : Cx) (st : Stmt) (t : TS) : Prop :=
  ∀ (pins : List (Addr × Obj)) (s : Shared) (σ : St) (H : Hp) (D : Ends), Inv X pins σ H s → t D σ H → wpAny (model X.prog X.w) X.A (exec st X.env) (SP X pins D) X.xe s
def PSs (X : Cx) (st : List Stmt) (t : TS) : Prop :=
  ∀ (pins : List (Addr × Obj)) (s : Shared) (σ : St) (H : Hp) (D : Ends), Inv X pins σ H s → t D σ H → wpAny (model X.prog X.w) X.A (execs st X.env) (SP X pins D) X.xe s
/-- weaken the end -/
theorem thn {α : Type} {t : Sem α} {Q Q' : α → Shared → Prop} {M : Model} {A : Around} {E : Value → Shared → Prop} {s : Shared} (h : wpAny M A t Q E s) (hQ : ∀ a s, Q a s → Q' a s) : wpAny M A t Q' E s := wpAny_mono h hQ fun _ _ x => x
end L2

namespace L2
open PySem PySem.Spec PyProof.Rows
section
variable {X : Cx}

/-! ### names and constants -/
def tVar (i : Nat) : TE := fun σ H Q => ∃ v, σ[i]? = some (some v) ∧ Q v H
def tC (v : V) : TE := fun _ H Q => Q v H
theorem pe_var {i : Nat} {x : Str} {pos : Pos} (hN : X.N[i]? = some x) (hv : Vis X.env.scope x) (hd : (x == ("__debug__" : Str)) = false := by decide) (hcd : (x == ("__classdict__" : Str)) = false := by decide) : PE X (.Name x pos) (tVar i) := by
  intro pins s σ H Q I h
  obtain ⟨v, e, h⟩ := h
  obtain ⟨m, hn, hl⟩ := I.loc
  obtain ⟨u, r, l⟩ := hl i x v hN e hv
  have fin : EP X pins σ Q u s := ⟨v, H, I, r, h⟩
  rcases l with ⟨hk, hm⟩ | ⟨hk, c, hc, hcell⟩
  · exact wpAny_Name (wpAny_loadName_local I.ok.kind hk hn hm fin) hd
  · rcases hk with hk | hk
    · exact wpAny_Name (wpAny_loadName_cell I.ok.kind hk hc hcell fin) hd
    · exact wpAny_Name (wpAny_loadName_free I.ok.kind hk hc hcell fin hcd) hd
theorem pe_int {i j pos} : PE X (.Constant (.int i) j pos) (tC (.int i)) := fun _ _ _ H _ I h => wpAny_Constant_int ⟨.int i, H, I.tok _, ⟨_, rfl⟩, h⟩
theorem pe_bl {b j pos} : PE X (.Constant (.bool b) j pos) (tC (.bl b)) := fun _ _ _ H _ I h => Constant_bool ⟨.bl b, H, I, rfl, h⟩
theorem pe_non {j pos} : PE X (.Constant .none j pos) (tC .non) := fun _ _ _ H _ I h => Constant_none ⟨.non, H, I, rfl, h⟩
theorem pe_str {x j pos} : PE X (.Constant (.str x) j pos) (tC (.str x)) := fun _ _ _ H _ I h => Calls.Constant_str ⟨.str x, H, I.tok _, ⟨_, rfl⟩, h⟩

/-- a global name of the def -/
def Gl (X : Cx) (x : Str) : Prop := X.env.kindOf x = some .globalImplicit
theorem ld_glob {E : Value → Shared → Prop} {pins : List (Addr × Obj)} {s : Shared} {σ : St} {H : Hp} {x : Str} {u : Value} {pos : Pos} {Q : Value → Shared → Prop} (I : Inv X pins σ H s) (hg : Gl X x) (hm : X.mg x = some u) (h : Q u s)
    (hd : (x == ("__debug__" : Str)) = false := by decide) : wpAny (model X.prog X.w) X.A (eval (.Name x pos) X.env) Q E s :=
  Calls.Name_function_global I.ok.kind hg (Calls.loadGlobal_global (by rw [I.ok.glob]; exact I.mod.glob.keeps I.bk) hm h) hd
theorem ld_blt {E : Value → Shared → Prop} {pins : List (Addr × Obj)} {s : Shared} {σ : St} {H : Hp} {x : Str} {u : Value} {pos : Pos} {Q : Value → Shared → Prop} (I : Inv X pins σ H s) (hg : Gl X x) (hm : X.mg x = none) (hv : bootBuiltins x = some u) (h : Q u s)
    (hn : x ≠ "__name__" := by decide) (hd : (x == ("__debug__" : Str)) = false := by decide) : wpAny (model X.prog X.w) X.A (eval (.Name x pos) X.env) Q E s := by
  obtain ⟨mb, h1, h2⟩ := I.mod.blt
  exact Calls.Name_function_global I.ok.kind hg (Calls.loadGlobal_builtin (by rw [I.ok.glob]; exact I.mod.glob.keeps I.bk) hm (by rw [I.ok.blt]; exact h1.keeps I.bk) ((h2 x hn).trans hv) h) hd
/-- a module's constant, a class, a function, as a value -/
theorem pe_glob {x : Str} {v : V} {u : Value} {pos : Pos} (hg : Gl X x) (hm : X.mg x = some u) (r : RelV v u) (hd : (x == ("__debug__" : Str)) = false := by decide) : PE X (.Name x pos) (tC v) :=
  fun _ _ _ H _ I h => ld_glob I hg hm ⟨v, H, I, r, h⟩ hd
theorem pe_bltn {x : Str} {v : V} {u : Value} {pos : Pos} (hg : Gl X x) (hm : X.mg x = none) (hv : bootBuiltins x = some u) (r : RelV v u) (hn : x ≠ "__name__" := by decide) (hd : (x == ("__debug__" : Str)) = false := by decide) : PE X (.Name x pos) (tC v) :=
  fun _ _ _ H _ I h => ld_blt I hg hm hv ⟨v, H, I, r, h⟩ hn hd

/-! ### arithmetic -/
/-- two ints -/
def t2I (ta tb : TE) (k : Int → Int → Hp → Prop) : St → Hp → Prop := fun σ H => ta σ H fun x H1 => tb σ H1 fun y H2 => ∃ i j, x = .int i ∧ y = .int j ∧ k i j H2
def tAdd (ta tb : TE) : TE := fun σ H Q => t2I ta tb (fun i j H2 => Q (.int (i + j)) H2) σ H
def tSub (ta tb : TE) : TE := fun σ H Q => t2I ta tb (fun i j H2 => Q (.int (i - j)) H2) σ H
/-- the left factor below 2^64 -/
def tMul (ta tb : TE) : TE := fun σ H Q => t2I ta tb (fun i j H2 => (-(2 ^ 64) < i ∧ i < 2 ^ 64) ∧ Q (.int (i * j)) H2) σ H
variable {a b : Expr} {ta tb : TE} {pos : Pos}
/-! ### comparisons -/
def PC (X : Cx) (op : CmpOp) (a b : Expr) (t : TE) : Prop :=
  ∀ (pins : List (Addr × Obj)) (s : Shared) (σ : St) (H : Hp) (Q : VK), Inv X pins σ H s → t σ H Q →
    wpAny (model X.prog X.w) X.A (eval a X.env) (fun v s₁ => wpAny (model X.prog X.w) X.A (eval b X.env) (fun u s₂ => wpAny (model X.prog X.w) X.A (compareOp op v u) (EP X pins σ Q) X.xe s₂) X.xe s₁) X.xe s
def tCmp (p : Int → Int → Bool) (ta tb : TE) : TE := fun σ H Q => t2I ta tb (fun i j H2 => Q (.bl (p i j)) H2) σ H
abbrev tLt : TE → TE → TE := tCmp fun i j => decide (i < j)
abbrev tLe : TE → TE → TE := tCmp fun i j => decide (i ≤ j)
abbrev tGt : TE → TE → TE := tCmp fun i j => decide (j < i)
abbrev tGe : TE → TE → TE := tCmp fun i j => decide (j ≤ i)
abbrev tEqI : TE → TE → TE := tCmp fun i j => decide (i = j)
abbrev tNeI : TE → TE → TE := tCmp fun i j => !decide (i = j)
/-- is None -/
def tIsN (ta : TE) : TE := fun σ H Q => ta σ H fun x H1 => Q (.bl (decide (x = .non))) H1
def tNotN (ta : TE) : TE := fun σ H Q => ta σ H fun x H1 => Q (.bl (!decide (x = .non))) H1
/-- a comparison as a value, as a test -/
def tB (t : TE) : TT := fun σ H Q => t σ H fun x H1 => ∃ c, x = .bl c ∧ Q c H1
/-- an expression whose value is a bool, as a test -/
theorem pt_val {e : Expr} {t : TE} (h : PE X e t) (he : ∀ whole, isTrue e X.env whole = (do let v ← whole; standAt e.pos; holding [v] (truthy v)) := by intro _; rfl) : PT X e (tB t) := by
  intro pins s σ H Q I hw
  refine isTrue_plain (thn (h pins s σ H _ I hw) fun v s1 ⟨x, H1, I1, r1, q1⟩ => ?_) (he _)
  obtain ⟨d, rfl, q⟩ := q1
  cases r1
  exact wpAny_truthy_bool ⟨H1, I1, q⟩

/-! ### and, or, not -/
variable {tA tB' : TT} {rest : List Expr}
def tAnd (t u : TT) : TT := fun σ H Q => t σ H fun c H1 => if c = true then u σ H1 Q else Q false H1
def tOr (t u : TT) : TT := fun σ H Q => t σ H fun c H1 => if c = true then Q true H1 else u σ H1 Q
def tNot (t : TT) : TT := fun σ H Q => t σ H fun c H1 => Q (!c) H1
theorem pw_and1 (ha : PT X a tA) : PW X (.BoolOp .And [a] pos) tA := by
  intro wh pins s σ H Q I h
  refine isTrue_and (thn (ha pins s σ H Q I h) fun c s1 e => ?_)
  cases c with
  | true => exact isTrue_and_nil e
  | false => exact e
theorem pw_or1 (ha : PT X a tA) : PW X (.BoolOp .Or [a] pos) tA := by
  intro wh pins s σ H Q I h
  refine isTrue_or (thn (ha pins s σ H Q I h) fun c s1 e => ?_)
  cases c with
  | false => exact isTrue_or_nil e
  | true => exact e
theorem pw_and (ha : PT X a tA) (hb : PW X (.BoolOp .And (b :: rest) pos) tB') : PW X (.BoolOp .And (a :: b :: rest) pos) (tAnd tA tB') := by
  intro wh pins s σ H Q I h
  refine isTrue_and (thn (ha pins s σ H _ I h) fun c s1 ⟨H1, I1, q1⟩ => ?_)
  cases c with
  | true => exact hb wh pins s1 σ H1 Q I1 q1
  | false => exact ⟨H1, I1, q1⟩
theorem pw_or (ha : PT X a tA) (hb : PW X (.BoolOp .Or (b :: rest) pos) tB') : PW X (.BoolOp .Or (a :: b :: rest) pos) (tOr tA tB') := by
  intro wh pins s σ H Q I h
  refine isTrue_or (thn (ha pins s σ H _ I h) fun c s1 ⟨H1, I1, q1⟩ => ?_)
  cases c with
  | true => exact ⟨H1, I1, q1⟩
  | false => exact hb wh pins s1 σ H1 Q I1 q1
theorem pt_not (ha : PT X a tA) : PT X (.UnaryOp .Not a pos) (tNot tA) := by
  intro pins s σ H Q I h
  exact isTrue_not (ha pins s σ H (fun c H1 => Q (!c) H1) I h)
/-- .. as values (bools) -/
def tAndV (ta tb : TE) : TE := fun σ H Q => ta σ H fun x H1 => ∃ c, x = .bl c ∧ if c = true then tb σ H1 Q else Q (.bl false) H1
def tOrV (ta tb : TE) : TE := fun σ H Q => ta σ H fun x H1 => ∃ c, x = .bl c ∧ if c = true then Q (.bl true) H1 else tb σ H1 Q
def tNotV (ta : TE) : TE := fun σ H Q => ta σ H fun x H1 => ∃ c, x = .bl c ∧ Q (.bl (!c)) H1
theorem pe_one {op} {t : TE} (h : PE X a t) : PE X (.BoolOp op [a] pos) t := fun pins s σ H Q I hw => BoolOp_one (h pins s σ H Q I hw)
theorem pe_and (ha : PE X a ta) (hb : PE X (.BoolOp .And (b :: rest) pos) tb) : PE X (.BoolOp .And (a :: b :: rest) pos) (tAndV ta tb) := by
  intro pins s σ H Q I h
  refine BoolOp_and (thn (ha pins s σ H _ I h) fun v s1 ⟨x, H1, I1, r1, q1⟩ => ?_)
  obtain ⟨c, rfl, q1⟩ := q1
  cases r1
  refine wpAny_truthy_bool ?_
  cases c with
  | true => exact hb pins s1 σ H1 Q I1 q1
  | false => exact ⟨.bl false, H1, I1, rfl, q1⟩
theorem pe_not (ha : PE X a ta) : PE X (.UnaryOp .Not a pos) (tNotV ta) := by
  intro pins s σ H Q I h
  refine UnaryOp_ (thn (ha pins s σ H _ I h) fun v s1 ⟨x, H1, I1, r1, q1⟩ => ?_)
  obtain ⟨c, rfl, q1⟩ := q1
  cases r1
  exact not_of (wpAny_truthy_bool ⟨.bl (!c), H1, I1, rfl, q1⟩)
/-- a if t else b -/
def tIf (t : TT) (ta tb : TE) : TE := fun σ H Q => t σ H fun c H1 => if c = true then ta σ H1 Q else tb σ H1 Q
end
end L2

namespace L2
open PySem PySem.Spec PyProof.Rows

/-! ### a list, a tuple that is read: tracked, frozen, or an object of the module -/
def SqL (K : PySem.W.Frag) (H : Hp) (a : Addr) (xs : List V) : Prop :=
  Rd H a (.lst xs) ∨
    ∃ (o : Obj) (its : Array Value) (n : Nat), K.lookup a = some o ∧ o.cls = .type "list" ∧ o.dict = none ∧ o.data = .seq its n ∧ its.size ≤ sizeLine ∧ Vals xs its.toList
def SqT (K : PySem.W.Frag) (H : Hp) (a : Addr) (xs : List V) : Prop :=
  Rd H a (.tup xs) ∨
    ∃ (o : Obj) (its : Array Value) (n : Nat), K.lookup a = some o ∧ o.cls = .type "tuple" ∧ (o.data = .seq its n ∧ o.dict = none) ∧ its.size ≤ sizeLine ∧ Vals xs its.toList
def absV : Value → Option V
  | .none => some .non
  | .bool b => some (.bl b)
  | .int i _ => some (.int i)
  | .str x _ => some (.str x)
  | .bytes b _ => some (.byt b)
  | .float b _ => some (.flt b)
  | .ref a => some (.ref a)
  | .type n => some (.ty n)
  | _ => none
theorem RelV.abs {x : V} {u : Value} (r : RelV x u) : absV u = some x := by
  cases x with
  | non => cases r; rfl
  | bl _ => cases r; rfl
  | int _ => obtain ⟨t, rfl⟩ := r; rfl
  | str _ => obtain ⟨t, rfl⟩ := r; rfl
  | byt _ => obtain ⟨t, rfl⟩ := r; rfl
  | flt _ => obtain ⟨t, rfl⟩ := r; rfl
  | ref _ => cases r; rfl
  | ty _ => cases r; rfl
theorem RelV.inj {x y : V} {u : Value} (r : RelV x u) (q : RelV y u) : x = y := Option.some.inj (r.abs.symm.trans q.abs)
theorem Vals.inj : ∀ {xs ys : List V} {us : List Value}, Vals xs us → Vals ys us → xs = ys
  | _, _, _, .nil, .nil => rfl
  | _, _, _, .cons r t, .cons r' t' => by rw [r.inj r', Vals.inj t t']
section
variable {X : Cx} {pins : List (Addr × Obj)} {σ : St} {H : Hp} {s : Shared} {a : Addr} {xs ys : List V}
theorem SqL.of {K : PySem.W.Frag} (h : H a = some (.lst xs)) : SqL K H a xs := .inl (.inl h)
theorem SqT.of {K : PySem.W.Frag} (h : H a = some (.tup xs)) : SqT K H a xs := .inl (.inl h)
theorem Inv.list (I : Inv X pins σ H s) (h : SqL X.K H a xs) : ∃ its : List Value, Vals xs its ∧ PlainL s.heap a its.toArray ∧ xs.length ≤ sizeLine := by
  rcases h with h | ⟨o, its, n, hk, hc, hd, hs, hz, r⟩
  · obtain ⟨z, its, n, r, e⟩ := h.ok I.hok
    exact ⟨its, r, ⟨_, n, e, rfl, rfl, rfl⟩, z⟩
  · refine ⟨its.toList, r, ⟨o, n, I.kIn a o hk, hc, hd, by simpa using hs⟩, ?_⟩
    have e := r.length
    simp only [Array.length_toList] at e
    omega
theorem Inv.tuple (I : Inv X pins σ H s) (h : SqT X.K H a xs) : ∃ its : List Value, Vals xs its ∧ IsTup s.heap a its.toArray ∧ xs.length ≤ sizeLine := by
  rcases h with h | ⟨o, its, n, hk, hc, hs, hz, r⟩
  · obtain ⟨z, its, r, p⟩ := h.ok I.hok
    exact ⟨its, r, p, z⟩
  · refine ⟨its.toList, r, ⟨o, I.kIn a o hk, hc, n, by simpa using hs.1⟩, ?_⟩
    have e := r.length
    simp only [Array.length_toList] at e
    omega
theorem Inv.list_inj (I : Inv X pins σ H s) (h : SqL X.K H a xs) (h' : SqL X.K H a ys) : xs = ys := by
  obtain ⟨its, r, ⟨o, n, e, _, _, d⟩, _⟩ := I.list h
  obtain ⟨its', r', ⟨o', n', e', _, _, d'⟩, _⟩ := I.list h'
  rw [e] at e'; cases e'
  rw [d] at d'
  injection d' with d1 _
  have : its = its' := by simpa using congrArg Array.toList d1
  subst this
  exact r.inj r'
theorem Inv.tuple_inj (I : Inv X pins σ H s) (h : SqT X.K H a xs) (h' : SqT X.K H a ys) : xs = ys := by
  obtain ⟨its, r, ⟨o, e, _, n, d⟩, _⟩ := I.tuple h
  obtain ⟨its', r', ⟨o', e', _, n', d'⟩, _⟩ := I.tuple h'
  rw [e] at e'; cases e'
  rw [d] at d'
  injection d' with d1 _
  have : its = its' := by simpa using congrArg Array.toList d1
  subst this
  exact r.inj r'
end

/-! ### another wish about exceptions -/
abbrev Cx.wish (X : Cx) (E : Value → Shared → Prop) : Cx := { X with xe := E }
/-- no exception leaves -/
abbrev Cx.nox (X : Cx) : Cx := X.wish fun _ _ => False
theorem Cx.Ok.wish {X : Cx} (ok : X.Ok) (E : Value → Shared → Prop) : (X.wish E).Ok :=
  ⟨ok.mod, ok.kind, ok.glob, ok.blt, ok.above, ok.inj, ok.has, ok.cab, ok.hd, ok.frames, ok.stk, ok.exf, ok.bs, ok.bsz, ok.noex, ok.exfs, ok.funs, ok.frf⟩
theorem Cx.Ok.unwish {X : Cx} {E : Value → Shared → Prop} (ok : (X.wish E).Ok) : X.Ok :=
  ⟨ok.mod, ok.kind, ok.glob, ok.blt, ok.above, ok.inj, ok.has, ok.cab, ok.hd, ok.frames, ok.stk, ok.exf, ok.bs, ok.bsz, ok.noex, ok.exfs, ok.funs, ok.frf⟩
section
variable {X : Cx} {pins : List (Addr × Obj)} {σ : St} {H : Hp} {s : Shared} {E : Value → Shared → Prop}
theorem Inv.wish (I : Inv X pins σ H s) (E : Value → Shared → Prop) : Inv (X.wish E) pins σ H s := ⟨I.ok.wish E, I.os, I.bare, I.base, I.loc, I.cell, I.free, I.freeC, I.pin, I.hok, I.len⟩
theorem Inv.unwish (I : Inv (X.wish E) pins σ H s) : Inv X pins σ H s := ⟨I.ok.unwish, I.os, I.bare, I.base, I.loc, I.cell, I.free, I.freeC, I.pin, I.hok, I.len⟩
theorem SP.unwish {D : Ends} {f : Flow} {s' : Shared} (h : SP (X.wish E) pins D f s') : SP X pins D f s' := by
  cases f with
  | next => obtain ⟨σ', H', I, q⟩ := h; exact ⟨σ', H', I.unwish, q⟩
  | brk => obtain ⟨σ', H', I, q⟩ := h; exact ⟨σ', H', I.unwish, q⟩
  | cont => obtain ⟨σ', H', I, q⟩ := h; exact ⟨σ', H', I.unwish, q⟩
  | ret u => obtain ⟨v, σ', H', I, r, q⟩ := h; exact ⟨v, σ', H', I.unwish, r, q⟩
theorem PE.nox {e : Expr} {t : TE} (h : PE X.nox e t) : PE X e t := fun pins s σ H Q I hw =>
  wpAny_mono (h pins s σ H Q (I.wish _) hw) (fun _ _ ⟨v, H', I', r, q⟩ => ⟨v, H', I'.unwish, r, q⟩) fun _ _ z => False.elim z
theorem PT.nox {e : Expr} {t : TT} (h : PT X.nox e t) : PT X e t := fun pins s σ H Q I hw =>
  wpAny_mono (h pins s σ H Q (I.wish _) hw) (fun _ _ ⟨H', I', q⟩ => ⟨H', I'.unwish, q⟩) fun _ _ z => False.elim z
theorem PSs.nox {st : List Stmt} {t : TS} (h : PSs X.nox st t) : PSs X st t := fun pins s σ H D I hw =>
  wpAny_mono (h pins s σ H D (I.wish _) hw) (fun _ _ q => q.unwish) fun _ _ z => False.elim z
end

/-! ### blocks and small statements -/
section
variable {X : Cx} {st : Stmt} {rest : List Stmt} {t u : TS} {e : Expr} {te : TE} {pos : Pos}
def tNext : TS := fun D σ H => D.nx σ H
def tSeq (t u : TS) : TS := fun D σ H => t { D with nx := u D } σ H
theorem pss_nil : PSs X [] tNext := fun _ _ σ H _ I h => wpAny_execs_nil ⟨σ, H, I, h⟩
theorem pss_cons (h1 : PS X st t) (h2 : PSs X rest u) : PSs X (st :: rest) (tSeq t u) := by
  intro pins s σ H D I h
  refine wpAny_execs_cons (thn (h1 pins s σ H { D with nx := u D } I h) fun f s1 q => ?_)
  cases f with
  | next =>
    obtain ⟨σ', H', I', q⟩ := q
    exact h2 pins s1 σ' H' D I' q
  | ret v => exact q
  | brk => exact q
  | cont => exact q
theorem pss_one (h1 : PS X st t) : PSs X [st] t := by
  intro pins s σ H D I h
  refine wpAny_execs_cons (thn (h1 pins s σ H D I h) fun f s1 q => ?_)
  cases f with
  | next => exact wpAny_execs_nil q
  | ret v => exact q
  | brk => exact q
  | cont => exact q
def tBreak : TS := fun D σ H => D.bk σ H
def tCont : TS := fun D σ H => D.ct σ H
/-- in a def's body nothing is shown -/
theorem Inv.quiet {pins : List (Addr × Obj)} {σ : St} {H : Hp} {s : Shared} (I : Inv X pins σ H s) : interactive X.env = false := by simp [interactive, I.ok.kind]
/-- an expression whose value is dropped -/
def tDrop (te : TE) : TS := fun D σ H => te σ H fun _ H1 => D.nx σ H1
theorem ps_expr (he : PE X e te) (hs : swapsWith e none pos.line X.env = pure false := by rfl) : PS X (.Expr e pos) (tDrop te) := by
  intro pins s σ H D I h
  exact wpAny_Expr_any (thn (he pins s σ H _ I h) fun v s1 ⟨x, H1, I1, r1, q1⟩ => ⟨σ, H1, I1, q1⟩) I.quiet hs
def tRet (te : TE) : TS := fun D σ H => te σ H D.rt
theorem ps_ret (he : PE X e te) : PS X (.Return (some e) pos) (tRet te) := by
  intro pins s σ H D I h
  exact wpAny_Return_some (thn (he pins s σ H _ I h) fun v s1 ⟨x, H1, I1, r1, q1⟩ => ⟨x, σ, H1, I1, r1, q1⟩)
def tRetN : TS := fun D _ H => D.rt .non H
def tIfS (c : TT) (t u : TS) : TS := fun D σ H => c σ H fun b H1 => if b = true then t D σ H1 else u D σ H1
theorem ps_if {c : Expr} {a b : List Stmt} {tc : TT} (hc : PT X c tc) (ha : PSs X a t) (hb : PSs X b u) : PS X (.If c a b pos) (tIfS tc t u) := by
  intro pins s σ H D I h
  refine wpAny_If (thn (hc pins s σ H _ I h) fun d s1 ⟨H1, I1, q1⟩ => ?_)
  cases d with
  | true => exact ha pins s1 σ H1 D I1 q1
  | false => exact hb pins s1 σ H1 D I1 q1
/-- code that the proof never comes to -/
def tNever : TS := fun _ _ _ => False
end

/-! ### targets -/
abbrev TG := V → St → Hp → (St → Hp → Prop) → Prop
abbrev TGs := List V → St → Hp → (St → Hp → Prop) → Prop
def PG (X : Cx) (target : Expr) (t : TG) : Prop :=
  ∀ (pins : List (Addr × Obj)) (s : Shared) (σ : St) (H : Hp) (v : V) (u : Value) (Q : St → Hp → Prop), Inv X pins σ H s → RelV v u → t v σ H Q →
    wpAny (model X.prog X.w) X.A (assign target X.env u) (fun _ s' => ∃ σ' H', Inv X pins σ' H' s' ∧ Q σ' H') X.xe s
/-- several targets, one after another -/
def PGs (X : Cx) (ts : List Expr) (t : TGs) : Prop :=
  ∀ (pins : List (Addr × Obj)) (s : Shared) (σ : St) (H : Hp) (vs : List V) (us : List Value) (Q : St → Hp → Prop), Inv X pins σ H s → Vals vs us → t vs σ H Q →
    wpAny (model X.prog X.w) X.A (assignInOrder ((assignEach ts X.env).map (·.2)) us) (fun _ s' => ∃ σ' H', Inv X pins σ' H' s' ∧ Q σ' H') X.xe s
/-- o[i] = v, by values -/
abbrev TSet := V → V → V → Hp → (Hp → Prop) → Prop
def PSet (X : Cx) (t : TSet) : Prop :=
  ∀ (pins : List (Addr × Obj)) (s : Shared) (σ : St) (H : Hp) (o i v : V) (ov iv u : Value) (Q : Hp → Prop), Inv X pins σ H s → RelV o ov → RelV i iv → RelV v u → t o i v H Q →
    wpAny (model X.prog X.w) X.A (setItem ov iv u) (fun _ s' => ∃ H', Inv X pins σ H' s' ∧ Q H') X.xe s
/-- a op= b, by values -/
abbrev TIp := V → V → Hp → VK → Prop
def PIp (X : Cx) (op : Operator) (t : TIp) : Prop :=
  ∀ (pins : List (Addr × Obj)) (s : Shared) (σ : St) (H : Hp) (x y : V) (v u : Value) (Q : VK), Inv X pins σ H s → RelV x v → RelV y u → t x y H Q →
    wpAny (model X.prog X.w) X.A (inplaceOp op v u) (EP X pins σ Q) X.xe s
section
variable {X : Cx} {pos : Pos}
def gName (i : Nat) : TG := fun v σ H Q => Q (σ.set i (some v)) H
theorem pg_name {i : Nat} {x : Str} (hN : X.N.Nodup) (hi : X.N[i]? = some x) (hx : Loc X.env.scope x) (hf : X.fn x = true ∨ X.env.scope.names.lookup x = some .local := by first | exact .inl rfl | exact .inr rfl | assumption) : PG X (.Name x pos) (gName i) := by
  intro pins s σ H v u Q I r h
  exact wpAny_assign_Name (store_ok I hN hi hx r (fun s' I' => ⟨_, H, I', h⟩) hf)
def gNil : TGs := fun vs σ H Q => vs = [] ∧ Q σ H
def gCons (t : TG) (u : TGs) : TGs := fun vs σ H Q => ∃ v r, vs = v :: r ∧ t v σ H fun σ' H' => u r σ' H' Q
theorem pgs_nil : PGs X [] gNil := by
  intro pins s σ H vs us Q I r h
  obtain ⟨e, h⟩ := h
  subst e
  cases r
  exact assignInOrder_nil ⟨σ, H, I, h⟩
theorem pgs_cons {e : Expr} {es : List Expr} {t : TG} {u : TGs} (h1 : PG X e t) (h2 : PGs X es u)
    (hs : (assignEach (e :: es) X.env).map (·.2) = assign e X.env :: (assignEach es X.env).map (·.2) := by rfl) : PGs X (e :: es) (gCons t u) := by
  intro pins s σ H vs us Q I r h
  obtain ⟨v, vr, e1, h⟩ := h
  subst e1
  cases r with
  | cons r rr =>
    rw [hs]
    refine assignInOrder_cons (thn (h1 pins s σ H _ _ _ I r h) fun _ s1 ⟨σ1, H1, I1, q1⟩ => ?_)
    exact h2 pins s1 σ1 H1 _ _ Q I1 rr q1
/-- (a, b, ..) = a tuple of that length -/
def gTup (K : PySem.W.Frag) (n : Nat) (t : TGs) : TG := fun v σ H Q => ∃ a xs, v = .ref a ∧ SqT K H a xs ∧ xs.length = n ∧ t xs σ H Q
theorem pg_tup {es : List Expr} {k : Nat} {t : TGs} {n : Nat} (hc : X.calm = true) (h : PGs X es t)
    (hn : (assignEach es X.env).length = n := by rfl) (hst : (assignEach es X.env).findIdx? (·.1) = none := by rfl) : PG X (.Tuple es k pos) (gTup X.K n t) := by
  intro pins s σ H v u Q I r hw
  obtain ⟨a, xs, e1, hq, hl, hw⟩ := hw
  subst e1
  cases r
  obtain ⟨its, rv, ht, hz⟩ := I.tuple hq
  refine assign_Tuple_tuple (I.ok.hd hc) ht (by simp [hn, ← hl, rv.length]) hst fun h' hx => ?_
  have I1 : Inv X pins σ H { s with heap := h' } := I.kept (t' := s.toks) fun b o e => hx b o (Nat.ne_of_lt (Heap.lt_size e)) e
  exact h pins _ σ H xs _ Q I1 (by simpa using rv) hw
/-- o[i] = .. -/
def gSub (to ti : TE) (t : TSet) : TG := fun v σ H Q => to σ H fun o H1 => ti σ H1 fun i H2 => t o i v H2 fun H3 => Q σ H3
/-- target = value -/
def tAsg (te : TE) (g : TG) : TS := fun D σ H => te σ H fun x H1 => g x σ H1 D.nx
theorem ps_asg {tg e : Expr} {te : TE} {g : TG} (he : PE X e te) (hg : PG X tg g) (hs : swapsWithSole [tg] e pos.line X.env = pure false := by rfl) (hw : swappedStores [tg] e X.env = pure none := by rfl)
    (h1 : (assignEach [tg] X.env).map (·.2) = [assign tg X.env] := by rfl) : PS X (.Assign [tg] e pos) (tAsg te g) := by
  intro pins s σ H D I h
  refine wpAny_Assign_stores (thn (he pins s σ H _ I h) fun v s1 ⟨x, H1, I1, r1, q1⟩ => ?_) hs hw
  rw [h1]
  exact thn (hg pins s1 σ H1 x v _ I1 r1 q1) fun _ s2 q => q
/-- name = value -/
theorem ps_set {i : Nat} {x : Str} {e : Expr} {te : TE} {pos' : Pos} (hN : X.N.Nodup) (hi : X.N[i]? = some x) (hx : Loc X.env.scope x) (he : PE X e te) (hs : swapsWith e (some (.Name x pos')) pos.line X.env = pure false := by rfl) (hf : X.fn x = true ∨ X.env.scope.names.lookup x = some .local := by first | exact .inl rfl | exact .inr rfl | assumption) :
    PS X (.Assign [.Name x pos'] e pos) (tAsg te (gName i)) := by
  intro pins s σ H D I h
  refine wpAny_Assign_Name (thn (he pins s σ H _ I h) fun v s1 ⟨y, H1, I1, r1, q1⟩ => ?_) hs
  exact store_ok I1 hN hi hx r1 (fun s2 I2 => ⟨_, H1, I2, q1⟩) hf
/-- a, b = x, y with plain local names: stored from the right; the pair itself is not tracked (the opening rows as in PyProof/Rows/TupAssign.lean:23) -/
def tPar (i j : Nat) (ta : TA) : TS := fun D σ H => ta σ H fun vs H1 => ∃ v w, vs = [v, w] ∧ D.nx ((σ.set i (some v)).set j (some w)) H1
theorem ps_par {i j : Nat} {x y : Str} {a b : Expr} {ta : TA} {px py pt : Pos} {kt k2 pt2} (hc : X.calm = true) (hN : X.N.Nodup) (hi : X.N[i]? = some x) (hj : X.N[j]? = some y) (hij : i ≠ j)
    (hx : X.env.scope.names.lookup x = some .local) (hy : X.env.scope.names.lookup y = some .local) (ha : PA X [a, b] ta)
    (hw : swappedStores [.Tuple [.Name x px, .Name y py] kt pt] (.Tuple [a, b] k2 pt2) X.env = pure (some [x, y]))
    (hs : swapsWithSole [.Tuple [.Name x px, .Name y py] kt pt] (.Tuple [a, b] k2 pt2) pos.line X.env = pure false := by rfl) :
    PS X (.Assign [.Tuple [.Name x px, .Name y py] kt pt] (.Tuple [a, b] k2 pt2) pos) (tPar i j ta) := by
  intro pins s σ H D I h
  rw [exec_Assign_arm]
  refine wpAny_bind (wpAny_standAt ?_)
  rw [hs]
  refine wpAny_bind (wpAny_pure ?_)
  rw [if_neg (by decide)]
  refine wpAny_bind (Tuple_ (thn (ha _ pins s σ H _ I h) fun us s1 ⟨vs, H1, I1, r1, q1⟩ => ?_))
  obtain ⟨v, w, e1, q1⟩ := q1
  subst e1
  obtain ⟨u1, u2, rfl, rv, rw'⟩ : ∃ u1 u2, us = [u1, u2] ∧ RelV v u1 ∧ RelV w u2 := by
    cases r1 with
    | cons p q =>
      cases q with
      | cons p' q' =>
        cases q'
        exact ⟨_, _, rfl, p, p'⟩
  refine wpAny_newObj_type ?_ (by show 2 ≤ sizeLine; decide)
  have I2 : Inv X pins σ H1 { s1 with heap := s1.heap.push { cls := .type "tuple", data := .seq [u1, u2].toArray } } := I1.kept (t' := s1.toks) fun b o e => Heap.get?_push_of_some _ e
  rw [hw]
  refine wpAny_bind (wpAny_pure ?_)
  show wpAny (model X.prog X.w) X.A (do rule "assign.swapped-stores"; let items ← unpackItems (.ref s1.heap.objs.size) 2 none; assignInOrder [fun v => bindName X.env y v, fun v => bindName X.env x v] items.reverse; pure Flow.next) _ _ _
  refine wpAny_bind (wpAny_rule (wpAny_bind (unpackItems_tuple (items := #[u1, u2]) (I.ok.hd hc) (IsTup.new s1.heap _).is fun h' hx' => ?_)))
  have I3 := I2.kept (h' := h') (t' := s1.toks) fun b o e => hx' b o (Nat.ne_of_lt (Heap.lt_size e)) e
  show wpAny _ _ (assignInOrder [fun v => bindName X.env y v, fun v => bindName X.env x v] [u2, u1] >>= fun _ => pure Flow.next) _ _ _
  refine wpAny_bind (assignInOrder_cons (wpAny_bindName (store_ok I3 hN hj (.inl hy) rw' (fun s2 I4 => ?_) (.inr hy))))
  refine assignInOrder_cons (wpAny_bindName (store_ok I4 hN hi (.inl hx) rv (fun s3 I5 => assignInOrder_nil (wpAny_pure ?_)) (.inr hx)))
  rw [List.set_comm _ _ (Ne.symm hij)] at I5
  exact ⟨_, H1, I5, q1⟩
/-- name op= e -/
def tAug (i : Nat) (te : TE) (ti : TIp) : TS := fun D σ H => ∃ x, σ[i]? = some (some x) ∧ te σ H fun y H1 => ti x y H1 fun z H2 => D.nx (σ.set i (some z)) H2
/-- o[i] op= e -/
def tAugS (to ti te : TE) (tget : V → V → Hp → VK → Prop) (tip : TIp) (tset : TSet) : TS := fun D σ H => to σ H fun o H1 => ti σ H1 fun i H2 => tget o i H2 fun x H3 => te σ H3 fun y H4 => tip x y H4 fun z H5 => tset o i z H5 fun H6 => D.nx σ H6
/-- o[i], by values -/
def PGet (X : Cx) (t : V → V → Hp → VK → Prop) : Prop :=
  ∀ (pins : List (Addr × Obj)) (s : Shared) (σ : St) (H : Hp) (o i : V) (ov iv : Value) (Q : VK), Inv X pins σ H s → RelV o ov → RelV i iv → t o i H Q →
    wpAny (model X.prog X.w) X.A (getItem ov iv) (EP X pins σ Q) X.xe s
/-- ints -/
def ipI (f : Int → Int → Int) : TIp := fun x y H Q => ∃ i j, x = .int i ∧ y = .int j ∧ Q (.int (f i j)) H
end

/-! ### while -/
section
variable {X : Cx} {pos : Pos}
/-- the invariant W with its measure -/
def tWhile (c : TT) (tb : TS) : TS := fun D σ H => ∃ W : Nat → St → Hp → Prop, (∃ m, W m σ H) ∧ ∀ m σ H, W m σ H →
  c σ H fun b H1 => if b = true then ∃ N : St → Hp → Prop, (∀ σ' H', N σ' H' → ∃ m', m' < m ∧ W m' σ' H') ∧ tb { D with nx := N, ct := N, bk := D.nx } σ H1 else D.nx σ H1
theorem ps_while {c : Expr} {body : List Stmt} {tc : TT} {tb : TS} (hp : PassesOwn (model X.prog X.w) X.A X.env X.xe) (hc : PT X c tc) (hb : PSs X body tb) : PS X (.While c body [] pos) (tWhile tc tb) := by
  intro pins s σ H D I h
  obtain ⟨W, ⟨m0, w0⟩, turn⟩ := h
  refine wpAny_While (codeAny_whileLoop (fun n s' => ∃ σ' H', Inv X pins σ' H' s' ∧ W n σ' H') ?_ m0 ⟨σ, H, I, w0⟩)
  rintro n s1 ⟨σ1, H1, I1, w1⟩
  refine wpAny_passesOwn hp (thn (hc pins s1 σ1 H1 _ I1 (turn n σ1 H1 w1)) fun b s2 ⟨H2, I2, q2⟩ => ?_)
  cases b with
  | true =>
    obtain ⟨N, hN, q2⟩ := q2
    rw [if_pos rfl]
    refine wpAny_passesOwn hp (thn (hb pins s2 σ1 H2 _ I2 q2) fun f s3 q3 => ?_)
    cases f with
    | next =>
      obtain ⟨σ3, H3, I3, n3⟩ := q3
      obtain ⟨m', hm, w3⟩ := hN σ3 H3 n3
      exact ⟨m', hm, σ3, H3, I3, w3⟩
    | cont =>
      obtain ⟨σ3, H3, I3, n3⟩ := q3
      obtain ⟨m', hm, w3⟩ := hN σ3 H3 n3
      exact ⟨m', hm, σ3, H3, I3, w3⟩
    | brk => exact q3
    | ret v => exact q3
  | false =>
    rw [if_neg Bool.false_ne_true]
    exact wpAny_execs_nil ⟨σ1, H2, I2, q2⟩
end

/-! ### what a loop or a comprehension walks -/
/-- at turn i: it yields x (the heap may grow), or it stops -/
structure It where
  go : Nat → Hp → Prop
  yld : Nat → Hp → V → Hp → Prop
  stop : Nat → Hp → Prop
/-- the iterator's own objects may turn: they are not the frame's, not pinned, younger than the entry (or a comprehension's own) -/
def FpOk (X : Cx) (pins : List (Addr × Obj)) (H : Hp) (b : Addr) : Prop :=
  H b = none ∧ b ≠ X.env.locals ∧ b ∉ X.fs ∧ (b ∈ X.ex ∨ X.s_0.heap.objs.size ≤ b) ∧ (∀ x c, X.env.cells.lookup x = some c → c ≠ b) ∧ ∀ p ∈ X.pn ++ pins, p.1 ≠ b
theorem Inv.fpOk {X : Cx} {pins : List (Addr × Obj)} {σ : St} {H H' : Hp} {s : Shared} {b : Addr} (I : Inv X pins σ H s) (hb : s.heap.objs.size ≤ b) (hn : H' b = none) : FpOk X pins H' b := by
  refine ⟨hn, Nat.ne_of_gt (Nat.lt_of_lt_of_le I.lt hb), I.nofs hb, .inr (Nat.le_trans I.sz hb), fun x c e z => ?_, fun p hp z => ?_⟩
  · obtain ⟨v, q⟩ := I.cell x c e
    exact absurd (Nat.lt_of_lt_of_le q.lt (by rw [z]; exact hb)) (Nat.lt_irrefl _)
  · exact absurd (Nat.lt_of_lt_of_le (Heap.lt_size (I.pin p hp).1) (by rw [z]; exact hb)) (Nat.lt_irrefl _)
structure Turn (P : Program) (w : World) (K : PySem.W.Frag) (tg : Expr) (J : It) (fp : List Addr) (it : Addr) (tn : Nat → Heap → Prop) : Prop where
  mem : it ∈ fp
  obj : ∀ i h, tn i h → ∀ b ∈ fp, ∃ o, h.get? b = some o ∧ ∀ v, o.data ≠ .cell v
  keep : ∀ i h h', tn i h → (∀ b ∈ fp, ∀ o, h.get? b = some o → h'.get? b = some o) → tn i h'
  item : ∀ (X : Cx), X.prog = P → X.w = w → X.K = K → X.calm = true → ∀ (i : Nat) (pins : List (Addr × Obj)) (s : Shared) (σ : St) (H : Hp) (E : Value → Shared → Prop), Inv X pins σ H s → (∀ b ∈ fp, FpOk X pins H b) → tn i s.heap → J.go i H →
    wpAny (model P w) X.A (pyNext (.ref it)) (fun r s1 => ∃ u, r = some u ∧
      wpAny (model P w) X.A (letOwnedTupleGo tg (.ref it) u) (fun _ s2 => ∃ x H', Inv X pins σ H' s2 ∧ RelV x u ∧ J.yld i H x H' ∧ tn (i + 1) s2.heap ∧ ∀ b ∈ fp, H' b = none) E s1) E s
  done : ∀ (X : Cx), X.prog = P → X.w = w → X.K = K → X.calm = true → ∀ (i : Nat) (pins : List (Addr × Obj)) (s : Shared) (σ : St) (H : Hp) (E : Value → Shared → Prop), Inv X pins σ H s → (∀ b ∈ fp, FpOk X pins H b) → tn i s.heap → J.stop i H →
    wpAny (model P w) X.A (pyNext (.ref it)) (fun r s1 => r = none ∧ Inv X pins σ H s1) E s
  self : ∀ (A : Around) (i : Nat) (s : Shared) (Q : Value → Shared → Prop) (E : Value → Shared → Prop), tn i s.heap → Q (.ref it) s → wpAny (model P w) A (pyIter (.ref it)) Q E s
abbrev TI := St → Hp → (It → Hp → Prop) → Prop
/-- an iterator has come -/
def PIE (X : Cx) (pins : List (Addr × Obj)) (σ : St) (tg : Expr) (R : It → Hp → Prop) (itv : Value) (s2 : Shared) : Prop :=
  ∃ (it : Addr) (fp : List Addr) (tn : Nat → Heap → Prop) (J : It) (H' : Hp), itv = .ref it ∧ Inv X pins σ H' s2 ∧ Turn X.prog X.w X.K tg J fp it tn ∧ tn 0 s2.heap ∧ (∀ b ∈ fp, FpOk X pins H' b) ∧ R J H'
def PI (X : Cx) (tg iter : Expr) (wi : TI) : Prop :=
  ∀ (pins : List (Addr × Obj)) (s : Shared) (σ : St) (H : Hp) (R : It → Hp → Prop), Inv X pins σ H s → wi σ H R →
    wpAny (model X.prog X.w) X.A (eval iter X.env) (fun v s1 => wpAny (model X.prog X.w) X.A (pyIter v) (PIE X pins σ tg R) X.xe s1) X.xe s

/-- the step ahead of the store is nothing for an iterator that keeps no tuple -/
theorem go_of {M : Model} {A : Around} {E : Value → Shared → Prop} {s : Shared} {tg : Expr} {it : Addr} {u : Value} {o : Obj} {n : String} {vs : Array Value} {Q : Unit → Shared → Prop} (ho : s.heap.get? it = some o) (hc : o.cls = .type n) (hd : o.data = .fields vs)
    (hn : ["enumerate", "zip", "dict_itemiterator", "dict_reverseitemiterator", "odict_iterator", "itertools.zip_longest", "itertools.pairwise"].contains n = false) (hQ : Q () s) : wpAny M A (letOwnedTupleGo tg (.ref it) u) Q E s := by
  unfold letOwnedTupleGo
  cases tg <;> first
    | exact wpAny_pure hQ
    | (cases u <;> first
        | exact wpAny_pure hQ
        | (refine wpAny_bind (wpAny_load ho ?_)
           rw [hc, hd]
           show wpAny M A (if (["enumerate", "zip", "dict_itemiterator", "dict_reverseitemiterator", "odict_iterator", "itertools.zip_longest", "itertools.pairwise"].contains n && vs[0]? == some (rawInt _)) = true then _ else _) Q E s
           rw [if_neg (by intro h; rw [hn, Bool.false_and] at h; cases h)]
           exact wpAny_pure hQ))

/-- the list at a, as it stands at each turn (a loop may append to it) -/
def Itl (K : PySem.W.Frag) (a : Addr) : It :=
  ⟨fun i H => ∃ xs x, SqL K H a xs ∧ xs[i]? = some x, fun i H x H' => H' = H ∧ ∀ xs, SqL K H a xs → xs[i]? = some x, fun i H => ∃ xs, SqL K H a xs ∧ xs.length ≤ i⟩
def Itt (K : PySem.W.Frag) (a : Addr) : It :=
  ⟨fun i H => ∃ xs x, SqT K H a xs ∧ xs[i]? = some x, fun i H x H' => H' = H ∧ ∀ xs, SqT K H a xs → xs[i]? = some x, fun i H => ∃ xs, SqT K H a xs ∧ xs.length ≤ i⟩
/-- lo, lo + 1, .. (n of them) -/
def Itr (lo : Int) (n : Nat) : It := ⟨fun i _ => i < n, fun i H x H' => H' = H ∧ x = .int (lo + i), fun i _ => n ≤ i⟩
theorem turn_list {P : Program} {w : World} {K : PySem.W.Frag} {tg : Expr} (a it : Addr) : Turn P w K tg (Itl K a) [it] it (fun i h => h.IsListIter it a i) where
  mem := by simp
  obj := fun i h st b hb => by
    have e : b = it := by simpa using hb
    subst e
    obtain ⟨o, e, c, d⟩ := st
    exact ⟨o, e, fun v z => by rw [d] at z; cases z⟩
  keep := fun i h h' st k => st.at fun o e => k it (by simp) o e
  item := by
    intro X hP hw hK hc i pins s σ H E I hf st hg
    subst hP hw hK
    obtain ⟨xs, x, hq, hx⟩ := hg
    obtain ⟨its, rv, p, hz⟩ := I.list hq
    obtain ⟨u, hu, ru⟩ := rv.get hx
    obtain ⟨f0, f1, f2, f3, f4, f5⟩ := hf it (by simp)
    refine wpAny_pyNext_list_item st p.isList (x := u) (by simpa using hu) fun h' st' sb => ?_
    have I1 : Inv X pins σ H { s with heap := h' } := I.turned (t' := s.toks) (fun b o hb e => (sb.2 b hb).trans e) f0 f1 f3 f4 f5
    obtain ⟨o, e, c, d⟩ := id st'
    exact ⟨u, rfl, go_of (s := { s with heap := h' }) e c d (by decide) ⟨x, H, I1, ru, ⟨rfl, fun ys hy => by rw [I.list_inj hy hq]; exact hx⟩, st', fun b hb => (hf b hb).1⟩⟩
  done := by
    intro X hP hw hK hc i pins s σ H E I hf st hg
    subst hP hw hK
    obtain ⟨xs, hq, hx⟩ := hg
    obtain ⟨its, rv, p, hz⟩ := I.list hq
    obtain ⟨f0, f1, f2, f3, f4, f5⟩ := hf it (by simp)
    have hl := rv.length
    exact wpAny_pyNext_list_end (I.ok.hd hc) st p.isList (by simp; omega) fun h' eb => ⟨rfl, I.turned (t' := s.toks) (fun b o hb e => eb b o hb e) f0 f1 f3 f4 f5⟩
  self := fun _ _ _ _ _ st h => wpAny_pyIter_listiter st h
theorem turn_tuple {P : Program} {w : World} {K : PySem.W.Frag} {tg : Expr} (a it : Addr) : Turn P w K tg (Itt K a) [it] it (fun i h => h.IsTupleIter it a i) where
  mem := by simp
  obj := fun i h st b hb => by
    have e : b = it := by simpa using hb
    subst e
    obtain ⟨o, e, c, d⟩ := st
    exact ⟨o, e, fun v z => by rw [d] at z; cases z⟩
  keep := fun i h h' st k => st.at fun o e => k it (by simp) o e
  item := by
    intro X hP hw hK hc i pins s σ H E I hf st hg
    subst hP hw hK
    obtain ⟨xs, x, hq, hx⟩ := hg
    obtain ⟨its, rv, p, hz⟩ := I.tuple hq
    obtain ⟨u, hu, ru⟩ := rv.get hx
    obtain ⟨f0, f1, f2, f3, f4, f5⟩ := hf it (by simp)
    refine wpAny_pyNext_tuple_item st (show s.heap.IsTuple a its.toArray from p) (x := u) (by simpa using hu) fun h' st' sb => ?_
    have I1 : Inv X pins σ H { s with heap := h' } := I.turned (t' := s.toks) (fun b o hb e => (sb.2 b hb).trans e) f0 f1 f3 f4 f5
    obtain ⟨o, e, c, d⟩ := id st'
    exact ⟨u, rfl, go_of (s := { s with heap := h' }) e c d (by decide) ⟨x, H, I1, ru, ⟨rfl, fun ys hy => by rw [I.tuple_inj hy hq]; exact hx⟩, st', fun b hb => (hf b hb).1⟩⟩
  done := by
    intro X hP hw hK hc i pins s σ H E I hf st hg
    subst hP hw hK
    obtain ⟨xs, hq, hx⟩ := hg
    obtain ⟨its, rv, p, hz⟩ := I.tuple hq
    obtain ⟨f0, f1, f2, f3, f4, f5⟩ := hf it (by simp)
    have hl := rv.length
    exact wpAny_pyNext_tuple_end (I.ok.hd hc) st (show s.heap.IsTuple a its.toArray from p) (by simp; omega) fun h' eb => ⟨rfl, I.turned (t' := s.toks) (fun b o hb e => eb b o hb e) f0 f1 f3 f4 f5⟩
  self := fun _ _ _ _ _ st h => wpAny_pyIter_tupleiter st h
theorem turn_range {P : Program} {w : World} {K : PySem.W.Frag} {tg : Expr} (it : Addr) (lo : Int) (n : Nat) : Turn P w K tg (Itr lo n) [it] it (fun i h => IsRangeIter h it (lo + (i : Nat) * 1) ((n : Int) - (i : Nat)) 1) where
  mem := by simp
  obj := fun i h st b hb => by
    have e : b = it := by simpa using hb
    subst e
    exact ⟨_, st, fun v z => by
      have z' : Data.fields _ = Data.cell v := z
      cases z'⟩
  keep := fun i h h' st k => k it (by simp) _ st
  item := by
    intro X hP hw hK hc i pins s σ H E I hf st hg
    subst hP hw hK
    obtain ⟨f0, f1, f2, f3, f4, f5⟩ := hf it (by simp)
    have W := Walks.range (prog := X.prog) (w := X.w) (I.ok.hd hc) it lo 1 n
    refine W.item i s _ _ hg st fun v h' tk hv st' kk => ?_
    obtain ⟨t, rfl⟩ := hv
    have I1 : Inv X pins σ H { s with heap := h', toks := tk } := I.turned (fun b o hb e => kk b o (by simpa using hb) e) f0 f1 f3 f4 f5
    refine ⟨_, rfl, go_of (s := { s with heap := h', toks := tk }) (n := "range_iterator") st' rfl rfl (by decide) ⟨.int (lo + i), H, I1, ⟨t, ?_⟩, ⟨rfl, rfl⟩, st', fun b hb => (hf b hb).1⟩⟩
    rw [Int.mul_one]
  done := by
    intro X hP hw hK hc i pins s σ H E I hf st hg
    subst hP hw hK
    obtain ⟨f0, f1, f2, f3, f4, f5⟩ := hf it (by simp)
    exact wpAny_pyNext_range_end (I.ok.hd hc) st (by have : n ≤ i := hg; omega) fun h' eb => ⟨rfl, I.turned (t' := s.toks) (fun b o hb e => eb b o hb e) f0 f1 f3 f4 f5⟩
  self := fun _ _ _ _ _ st h => wpAny_pyIter_rangeiter st h
end L2

namespace L2
open PySem PySem.Spec PyProof.Rows
section
variable {X : Cx} {tg : Expr}
def iList (K : PySem.W.Frag) (tl : TE) : TI := fun σ H R => tl σ H fun x H1 => ∃ a, x = .ref a ∧ (∃ xs, SqL K H1 a xs) ∧ R (Itl K a) H1
def iTup (K : PySem.W.Frag) (tl : TE) : TI := fun σ H R => tl σ H fun x H1 => ∃ a, x = .ref a ∧ (∃ xs, SqT K H1 a xs) ∧ R (Itt K a) H1
theorem pi_list {l : Expr} {tl : TE} (hl : PE X l tl) : PI X tg l (iList X.K tl) := by
  intro pins s σ H R I h
  refine thn (hl pins s σ H _ I h) fun v s1 ⟨x, H1, I1, r1, q1⟩ => ?_
  obtain ⟨a, e, ⟨xs, hq⟩, q⟩ := q1
  subst e
  cases r1
  obtain ⟨its, rv, p, hz⟩ := I1.list hq
  refine wpAny_pyIter_list p.isList ?_
  refine ⟨s1.heap.objs.size, [s1.heap.objs.size], _, _, H1, rfl, I1.kept (t' := s1.toks) fun b o e => Heap.get?_push_of_some _ e, turn_list a _, ⟨_, Heap.get?_push_size _ rfl, rfl, rfl⟩, fun b hb => ?_, q⟩
  have e : b = s1.heap.objs.size := by simpa using hb
  subst e
  exact I1.fpOk (Nat.le_refl _) (I1.hok.fresh (Nat.le_refl _))
theorem pi_tup {l : Expr} {tl : TE} (hl : PE X l tl) : PI X tg l (iTup X.K tl) := by
  intro pins s σ H R I h
  refine thn (hl pins s σ H _ I h) fun v s1 ⟨x, H1, I1, r1, q1⟩ => ?_
  obtain ⟨a, e, ⟨xs, hq⟩, q⟩ := q1
  subst e
  cases r1
  obtain ⟨its, rv, p, hz⟩ := I1.tuple hq
  refine wpAny_pyIter_tuple (show s1.heap.IsTuple a its.toArray from p) ?_
  refine ⟨s1.heap.objs.size, [s1.heap.objs.size], _, _, H1, rfl, I1.kept (t' := s1.toks) fun b o e => Heap.get?_push_of_some _ e, turn_tuple a _, ⟨_, Heap.get?_push_size _ rfl, rfl, rfl⟩, fun b hb => ?_, q⟩
  have e : b = s1.heap.objs.size := by simpa using hb
  subst e
  exact I1.fpOk (Nat.le_refl _) (I1.hok.fresh (Nat.le_refl _))
/-- a range object just made, walked -/
theorem range_it {pins : List (Addr × Obj)} {σ : St} {H : Hp} {s : Shared} {R : It → Hp → Prop} {E : Value → Shared → Prop} {lo hi : Int} {t u v : Tok} {tk : Nat} (I : Inv X pins σ H s) (h1 : -(2 ^ 62) ≤ lo) (h2 : lo < 2 ^ 62) (h3 : -(2 ^ 62) ≤ hi) (h4 : hi < 2 ^ 62)
    (q : R (Itr lo (hi - lo).toNat) H) : wpAny (model X.prog X.w) X.A (pyIter (.ref s.heap.objs.size)) (PIE X pins σ tg R) E { s with heap := s.heap.push { cls := .type "range", data := .fields #[.int lo t, .int hi u, .int 1 v] }, toks := tk } := by
  refine wpAny_pyIter_range (IsRange.new ..) (small_one h1 h2 h3 h4) ?_
  have I1 : Inv X pins σ H { s with heap := s.heap.push { cls := .type "range", data := .fields #[.int lo t, .int hi u, .int 1 v] }, toks := tk } := I.kept fun b o e => Heap.get?_push_of_some _ e
  refine ⟨(s.heap.push { cls := .type "range", data := .fields #[.int lo t, .int hi u, .int 1 v] }).objs.size, [(s.heap.push { cls := .type "range", data := .fields #[.int lo t, .int hi u, .int 1 v] }).objs.size], _, _, H, rfl,
    I1.kept (t' := tk) fun b o e => Heap.get?_push_of_some _ e, turn_range _ lo (hi - lo).toNat, ?_, fun b hb => ?_, q⟩
  · have e1 : lo + ((0 : Nat) : Int) * 1 = lo := by simp
    have e2 : (((hi - lo).toNat : Nat) : Int) - ((0 : Nat) : Int) = Builtin.Range.rangeSize lo hi 1 := by rw [rangeSize_one]; split <;> omega
    show IsRangeIter _ _ (lo + ((0 : Nat) : Int) * 1) ((((hi - lo).toNat : Nat) : Int) - ((0 : Nat) : Int)) 1
    rw [e1, e2]
    exact Heap.get?_push_size _ rfl
  · have e : b = (s.heap.push { cls := .type "range", data := .fields #[.int lo t, .int hi u, .int 1 v] }).objs.size := by simpa using hb
    subst e
    exact I1.fpOk (Nat.le_refl _) (I1.hok.fresh (Nat.le_refl _))
def iRng1 (ta : TA) : TI := fun σ H R => ta σ H fun vs H1 => ∃ j : Int, vs = [.int j] ∧ -(2 ^ 62) ≤ j ∧ j < 2 ^ 62 ∧ R (Itr 0 j.toNat) H1
def iRng2 (ta : TA) : TI := fun σ H R => ta σ H fun vs H1 => ∃ i j : Int, vs = [.int i, .int j] ∧ (-(2 ^ 62) ≤ i ∧ i < 2 ^ 62 ∧ -(2 ^ 62) ≤ j ∧ j < 2 ^ 62) ∧ R (Itr i (j - i).toNat) H1
theorem pi_range1 {a : Expr} {ta : TA} {p pos : Pos} (hg : Gl X "range") (hm : X.mg "range" = none) (ha : PA X [a] ta) (hs : starEach [a] X.env = [(false, eval a X.env)] := by rfl) : PI X tg (.Call (.Name "range" p) [a] [] pos) (iRng1 ta) := by
  intro pins s σ H R I h
  refine Call_ (ld_blt I hg hm boot_range (PyProof.Rows.callWith_type1 (thn (ha pos pins s σ H _ I h) fun us s1 ⟨vs, H1, I1, r1, q1⟩ => ?_) hs rfl))
  obtain ⟨j, e, q1, q2, q⟩ := q1
  subst e
  cases r1 with
  | cons r rr =>
    cases rr
    obtain ⟨t, rfl⟩ := r
    exact call_range_1 (range_it I1 (by omega) (by omega) q1 q2 (by simpa using q))
theorem pi_range2 {a b : Expr} {ta : TA} {p pos : Pos} (hg : Gl X "range") (hm : X.mg "range" = none) (ha : PA X [a, b] ta) (hs : starEach [a, b] X.env = [(false, eval a X.env), (false, eval b X.env)] := by rfl) (hs2 : starEach [b] X.env = [(false, eval b X.env)] := by rfl) :
    PI X tg (.Call (.Name "range" p) [a, b] [] pos) (iRng2 ta) := by
  intro pins s σ H R I h
  refine Call_ (ld_blt I hg hm boot_range (PyProof.Rows.callWith_type1 (thn (ha pos pins s σ H _ I h) fun us s1 ⟨vs, H1, I1, r1, q1⟩ => ?_) (by rw [hs, hs2]) (by rw [hs2]; rfl)))
  obtain ⟨i, j, e, ⟨q1, q2, q3, q4⟩, q⟩ := q1
  subst e
  cases r1 with
  | cons r rr =>
    cases rr with
    | cons r' rr =>
      cases rr
      obtain ⟨t, rfl⟩ := r
      obtain ⟨t', rfl⟩ := r'
      exact call_range_2 (range_it I1 q1 q2 q3 q4 q)

/-! ### for -/
/-- W: the invariant by the turn and a measure; N: what the body is to reach -/
def tFor (wi : TI) (g : TG) (tb : TS) : TS := fun D σ H => wi σ H fun J H1 => ∃ W : Nat → Nat → St → Hp → Prop, (∃ m, W 0 m σ H1) ∧ ∀ i m σ H, W i m σ H →
  (J.stop i H ∧ D.nx σ H) ∨ (J.go i H ∧ ∃ N : St → Hp → Prop, (∀ σ' H', N σ' H' → ∃ m', m' < m ∧ W (i + 1) m' σ' H') ∧ ∀ x H', J.yld i H x H' → g x σ H' fun σ2 H2 => tb { D with nx := N, ct := N, bk := D.nx } σ2 H2)
/-- the records at fp as they stand -/
def pinsAt (fp : List Addr) (h : Heap) : List (Addr × Obj) := fp.filterMap fun b => (h.get? b).map fun o => (b, o)
theorem mem_pinsAt {fp : List Addr} {h : Heap} {b : Addr} {o : Obj} (hb : b ∈ fp) (e : h.get? b = some o) : (b, o) ∈ pinsAt fp h := List.mem_filterMap.mpr ⟨b, hb, by rw [e]; rfl⟩
theorem of_pinsAt {fp : List Addr} {h : Heap} {p : Addr × Obj} (hp : p ∈ pinsAt fp h) : p.1 ∈ fp ∧ h.get? p.1 = some p.2 := by
  obtain ⟨b, hb, e⟩ := List.mem_filterMap.mp hp
  cases q : h.get? b with
  | none => rw [q] at e; cases e
  | some o =>
    rw [q] at e
    have e' : (b, o) = p := Option.some.inj e
    subst e'
    exact ⟨hb, q⟩
theorem Inv.pinned {pins : List (Addr × Obj)} {σ : St} {H : Hp} {s : Shared} {fp : List Addr} (I : Inv X pins σ H s) (hf : ∀ b ∈ fp, FpOk X pins H b) (ho : ∀ b ∈ fp, ∃ o, s.heap.get? b = some o ∧ ∀ v, o.data ≠ .cell v) : Inv X (pins ++ pinsAt fp s.heap) σ H s :=
  I.pins_of fun p hp => (List.mem_append.mp hp).elim (fun z => I.pin p (List.mem_append_right _ z)) fun z => by
    obtain ⟨hb, e⟩ := of_pinsAt z
    obtain ⟨f0, f1, f2, _⟩ := hf p.1 hb
    obtain ⟨o, e', d⟩ := ho p.1 hb
    rw [e] at e'; cases e'
    exact ⟨e, f0, f1, f2, d⟩
theorem Inv.unpinned {pins pl : List (Addr × Obj)} {σ : St} {H : Hp} {s : Shared} (I : Inv X (pins ++ pl) σ H s) : Inv X pins σ H s := I.pins_of fun p hp => I.pin p (List.mem_append_right _ (List.mem_append_left _ hp))
theorem ps_for {iter : Expr} {body : List Stmt} {wi : TI} {g : TG} {tb : TS} {pos : Pos} (hp : PassesOwn (model X.prog X.w) X.A X.env X.xe) (hc : X.calm = true) (hi : PI X tg iter wi) (hg : PG X tg g) (hb : PSs X body tb)
    (hs : ∀ x, foldedSetIterable iter X.env x = pure x := by intro _; rfl) : PS X (.For tg iter body [] pos) (tFor wi g tb) := by
  intro pins s σ H D I h
  refine wpAny_For (thn (hi pins s σ H _ I h) fun v s1 h1 => thn h1 fun itv s2 h2 => ?_) hs
  obtain ⟨it, fp, tn, J, H2, e, I2, T, st2, f2, W, ⟨m0, w0⟩, turn⟩ := h2
  subst e
  -- what stays true of the iterator's objects through the loop
  have stat : ∀ {H' : Hp}, (∀ b ∈ fp, H' b = none) → ∀ b ∈ fp, FpOk X pins H' b := fun hn b hb => ⟨hn b hb, (f2 b hb).2⟩
  refine codeAny_forLoop_any (fun n s' => ∃ i σ' H', Inv X pins σ' H' s' ∧ tn i s'.heap ∧ (∀ b ∈ fp, H' b = none) ∧ W i n σ' H') ?_ m0 ⟨0, σ, H2, I2, st2, fun b hb => (f2 b hb).1, w0⟩
  rintro n s3 ⟨i, σ3, H3, I3, st3, fr3, w3⟩
  rcases turn i n σ3 H3 w3 with ⟨stop, qn⟩ | ⟨go, N, hN, step⟩
  · refine wpAny_passesOwn hp (thn (T.done X rfl rfl rfl hc i pins s3 σ3 H3 X.xe I3 (stat fr3) st3 stop) fun r s4 ⟨hr, I4⟩ => ?_)
    subst hr
    exact wpAny_execs_nil ⟨σ3, H3, I4, qn⟩
  · refine wpAny_passesOwn hp (thn (T.item X rfl rfl rfl hc i pins s3 σ3 H3 X.xe I3 (stat fr3) st3 go) fun r s4 ⟨u, hr, h4⟩ => ?_)
    subst hr
    refine wpAny_passesOwn hp (thn h4 fun _ s5 ⟨x, H5, I5, r5, y5, st5, fr5⟩ => ?_)
    have I5' := I5.pinned (stat fr5) (T.obj _ _ st5)
    refine wpAny_passesOwn hp (thn (hg _ s5 σ3 H5 x u _ I5' r5 (step x H5 y5)) fun _ s6 ⟨σ6, H6, I6, q6⟩ => ?_)
    refine wpAny_passesOwn hp (thn (hb _ s6 σ6 H6 _ I6 q6) fun f s7 q7 => ?_)
    have again : ∀ {σ7 : St} {H7 : Hp}, Inv X (pins ++ pinsAt fp s5.heap) σ7 H7 s7 → N σ7 H7 → ∃ m, m < n ∧ ∃ i σ' H', Inv X pins σ' H' s7 ∧ tn i s7.heap ∧ (∀ b ∈ fp, H' b = none) ∧ W i m σ' H' := fun {σ7 H7} I7 n7 => by
      obtain ⟨m', hm, w7⟩ := hN σ7 H7 n7
      refine ⟨m', hm, i + 1, σ7, H7, I7.unpinned, T.keep _ _ _ st5 fun b hb o e => (I7.pin (b, o) (List.mem_append_right _ (List.mem_append_right _ (mem_pinsAt hb e)))).1, fun b hb => ?_, w7⟩
      obtain ⟨o, e, d⟩ := T.obj _ _ st5 b hb
      exact (I7.pin (b, o) (List.mem_append_right _ (List.mem_append_right _ (mem_pinsAt hb e)))).2.1
    cases f with
    | next => obtain ⟨σ7, H7, I7, n7⟩ := q7; exact again I7 n7
    | cont => obtain ⟨σ7, H7, I7, n7⟩ := q7; exact again I7 n7
    | brk => obtain ⟨σ7, H7, I7, q7⟩ := q7; exact ⟨σ7, H7, I7.unpinned, q7⟩
    | ret v => obtain ⟨x7, σ7, H7, I7, r7, q7⟩ := q7; exact ⟨x7, σ7, H7, I7.unpinned, r7, q7⟩
end

/-! ### the forms one uses -/
theorem for_tup {K : PySem.W.Frag} {a : Addr} {xs : List V} {g : TG} {tb : TS} {D : Ends} {σ : St} {H : Hp} (Pv : Nat → St → Hp → Prop) (h0 : Pv 0 σ H) (hl : ∀ i σ H, i ≤ xs.length → Pv i σ H → SqT K H a xs)
    (hs : ∀ i x σ H, xs[i]? = some x → Pv i σ H → g x σ H fun σ2 H2 => tb { D with nx := Pv (i + 1), ct := Pv (i + 1), bk := D.nx } σ2 H2) (hd : ∀ σ H, Pv xs.length σ H → D.nx σ H) :
    ∃ W : Nat → Nat → St → Hp → Prop, (∃ m, W 0 m σ H) ∧ ∀ i m σ H, W i m σ H →
      ((Itt K a).stop i H ∧ D.nx σ H) ∨ ((Itt K a).go i H ∧ ∃ N : St → Hp → Prop, (∀ σ' H', N σ' H' → ∃ m', m' < m ∧ W (i + 1) m' σ' H') ∧ ∀ x H', (Itt K a).yld i H x H' → g x σ H' fun σ2 H2 => tb { D with nx := N, ct := N, bk := D.nx } σ2 H2) := by
  refine ⟨fun i m σ H => m = xs.length - i ∧ i ≤ xs.length ∧ Pv i σ H, ⟨xs.length, by simp, Nat.zero_le _, h0⟩, ?_⟩
  rintro i m σ H ⟨rfl, hi, p⟩
  have q := hl i σ H hi p
  by_cases hlt : i < xs.length
  · refine .inr ⟨⟨xs, xs[i], q, by simp [hlt]⟩, Pv (i + 1), fun σ' H' p' => ⟨xs.length - (i + 1), by omega, rfl, hlt, p'⟩, fun x H' y => ?_⟩
    obtain ⟨e, y⟩ := y
    subst e
    exact hs i x σ _ (y xs q) p
  · have e : i = xs.length := by omega
    subst e
    exact .inl ⟨⟨xs, q, Nat.le_refl _⟩, hd σ H p⟩
theorem for_range {lo : Int} {n : Nat} {g : TG} {tb : TS} {D : Ends} {σ : St} {H : Hp} (Pv : Nat → St → Hp → Prop) (h0 : Pv 0 σ H)
    (hs : ∀ i σ H, i < n → Pv i σ H → g (.int (lo + i)) σ H fun σ2 H2 => tb { D with nx := Pv (i + 1), ct := Pv (i + 1), bk := D.nx } σ2 H2) (hd : ∀ σ H, Pv n σ H → D.nx σ H) :
    ∃ W : Nat → Nat → St → Hp → Prop, (∃ m, W 0 m σ H) ∧ ∀ i m σ H, W i m σ H →
      ((Itr lo n).stop i H ∧ D.nx σ H) ∨ ((Itr lo n).go i H ∧ ∃ N : St → Hp → Prop, (∀ σ' H', N σ' H' → ∃ m', m' < m ∧ W (i + 1) m' σ' H') ∧ ∀ x H', (Itr lo n).yld i H x H' → g x σ H' fun σ2 H2 => tb { D with nx := N, ct := N, bk := D.nx } σ2 H2) := by
  refine ⟨fun i m σ H => m = n - i ∧ i ≤ n ∧ Pv i σ H, ⟨n, by simp, Nat.zero_le _, h0⟩, ?_⟩
  rintro i m σ H ⟨rfl, hi, p⟩
  by_cases hlt : i < n
  · refine .inr ⟨hlt, Pv (i + 1), fun σ' H' p' => ⟨n - (i + 1), by omega, rfl, hlt, p'⟩, fun x H' y => ?_⟩
    obtain ⟨e, y⟩ := y
    subst e y
    exact hs i σ _ hlt p
  · have e : i = n := by omega
    subst e
    exact .inl ⟨Nat.le_refl _, hd σ H p⟩
end L2

namespace L2
open PySem PySem.Spec PyProof.Rows

abbrev R2 := V → V → Hp → VK → Prop
/-- a two-place operation on values: f is binaryOp op, inplaceOp op or compareOp op -/
def OpR (X : Cx) (f : Value → Value → Sem Value) (r : R2) : Prop :=
  ∀ (pins : List (Addr × Obj)) (s : Shared) (σ : St) (H : Hp) (x y : V) (v u : Value) (Q : VK), Inv X pins σ H s → RelV x v → RelV y u → r x y H Q →
    wpAny (model X.prog X.w) X.A (f v u) (EP X pins σ Q) X.xe s
/-- a one-place operation -/
def UnR (X : Cx) (f : Value → Sem Value) (r : V → Hp → VK → Prop) : Prop :=
  ∀ (pins : List (Addr × Obj)) (s : Shared) (σ : St) (H : Hp) (x : V) (v : Value) (Q : VK), Inv X pins σ H s → RelV x v → r x H Q →
    wpAny (model X.prog X.w) X.A (f v) (EP X pins σ Q) X.xe s
/-- a call of a value that is known (a builtin, a type) with values -/
def CallR (X : Cx) (f : Value) (r : List V → Hp → VK → Prop) : Prop :=
  ∀ (pins : List (Addr × Obj)) (s : Shared) (σ : St) (H : Hp) (xs : List V) (us : List Value) (Q : VK), Inv X pins σ H s → Vals xs us → r xs H Q →
    wpAny (model X.prog X.w) X.A (call f us) (EP X pins σ Q) X.xe s
/-- a value's truth -/
def TruR (X : Cx) (r : V → Hp → (Bool → Hp → Prop) → Prop) : Prop :=
  ∀ (pins : List (Addr × Obj)) (s : Shared) (σ : St) (H : Hp) (x : V) (v : Value) (Q : Bool → Hp → Prop), Inv X pins σ H s → RelV x v → r x H Q →
    wpAny (model X.prog X.w) X.A (truthy v) (TP X pins σ Q) X.xe s

def tOp (r : R2) (ta tb : TE) : TE := fun σ H Q => ta σ H fun x H1 => tb σ H1 fun y H2 => r x y H2 Q
def tUn (r : V → Hp → VK → Prop) (ta : TE) : TE := fun σ H Q => ta σ H fun x H1 => r x H1 Q
/-- ints in, under C, and a value out -/
def rI (C : Int → Int → Prop) (g : Int → Int → V) : R2 := fun x y H Q => ∃ i j, x = .int i ∧ y = .int j ∧ C i j ∧ Q (g i j) H
def rI0 (g : Int → Int → V) : R2 := fun x y H Q => ∃ i j, x = .int i ∧ y = .int j ∧ Q (g i j) H
def rU (g : Int → V) : V → Hp → VK → Prop := fun x H Q => ∃ i, x = .int i ∧ Q (g i) H

section
variable {X : Cx} {a b c : Expr} {ta tb tc : TE} {pos : Pos}

theorem binT (ha : PE X a ta) (hb : PE X b tb) {pins : List (Addr × Obj)} {s : Shared} {σ : St} {H : Hp} {R : V → V → Hp → Prop} (I : Inv X pins σ H s)
    (h : ta σ H fun x H1 => tb σ H1 fun y H2 => R x y H2) {Q : Value → Shared → Prop} {f : Value → Value → Sem Value}
    (hf : ∀ v u s2 x y H2, Inv X pins σ H2 s2 → RelV x v → RelV y u → R x y H2 → wpAny (model X.prog X.w) X.A (f v u) Q X.xe s2) :
    wpAny (model X.prog X.w) X.A (eval a X.env) (fun v s₁ => wpAny (model X.prog X.w) X.A (eval b X.env) (fun u s₂ => wpAny (model X.prog X.w) X.A (f v u) Q X.xe s₂) X.xe s₁) X.xe s := by
  refine thn (ha pins s σ H _ I h) fun v s1 ⟨x, H1, I1, r1, q1⟩ => ?_
  refine thn (hb pins s1 σ H1 _ I1 q1) fun u s2 ⟨y, H2, I2, r2, q2⟩ => ?_
  exact hf v u s2 x y H2 I2 r1 r2 q2

theorem pe_op {op : Operator} {r : R2} (ho : OpR X (binaryOp op) r) (ha : PE X a ta) (hb : PE X b tb) : PE X (.BinOp a op b pos) (tOp r ta tb) := by
  intro pins s σ H Q I h
  exact wpAny_BinOp (binT ha hb I h fun v u s2 x y H2 I2 rx ry q => ho pins s2 σ H2 x y v u Q I2 rx ry q)
theorem pe_un {op : UnaryOp} {r : V → Hp → VK → Prop} (ho : UnR X (unaryOp op) r) (ha : PE X a ta) : PE X (.UnaryOp op a pos) (tUn r ta) := by
  intro pins s σ H Q I h
  exact UnaryOp_ (thn (ha pins s σ H _ I h) fun v s1 ⟨x, H1, I1, r1, q1⟩ => ho pins s1 σ H1 x v Q I1 r1 q1)
/-! ### ints -/
theorem opI {f : Value → Value → Sem Value} {C : Int → Int → Prop} {g : Int → Int → Int}
    (rule : ∀ (i j : Int) (t u : Tok) (s : Shared) (Q : Value → Shared → Prop) (E : Value → Shared → Prop), C i j → Q (.int (g i j) s.toks) { s with toks := s.toks + 1 } → wpAny (model X.prog X.w) X.A (f (.int i t) (.int j u)) Q E s) :
    OpR X f (rI C fun i j => .int (g i j)) := by
  intro pins s σ H x y v u Q I rx ry h
  obtain ⟨i, j, rfl, rfl, hc, q⟩ := h
  obtain ⟨t, rfl⟩ := rx
  obtain ⟨t', rfl⟩ := ry
  exact rule i j t t' s _ _ hc ⟨.int (g i j), H, I.tok _, ⟨_, rfl⟩, q⟩
theorem opI0 {f : Value → Value → Sem Value} {g : Int → Int → Int}
    (rule : ∀ (i j : Int) (t u : Tok) (s : Shared) (Q : Value → Shared → Prop) (E : Value → Shared → Prop), Q (.int (g i j) s.toks) { s with toks := s.toks + 1 } → wpAny (model X.prog X.w) X.A (f (.int i t) (.int j u)) Q E s) :
    OpR X f (rI0 fun i j => .int (g i j)) := by
  intro pins s σ H x y v u Q I rx ry h
  obtain ⟨i, j, rfl, rfl, q⟩ := h
  obtain ⟨t, rfl⟩ := rx
  obtain ⟨t', rfl⟩ := ry
  exact rule i j t t' s _ _ ⟨.int (g i j), H, I.tok _, ⟨_, rfl⟩, q⟩
theorem opB0 {f : Value → Value → Sem Value} {g : Int → Int → Bool}
    (rule : ∀ (i j : Int) (t u : Tok) (s : Shared) (Q : Value → Shared → Prop) (E : Value → Shared → Prop), Q (.bool (g i j)) s → wpAny (model X.prog X.w) X.A (f (.int i t) (.int j u)) Q E s) :
    OpR X f (rI0 fun i j => .bl (g i j)) := by
  intro pins s σ H x y v u Q I rx ry h
  obtain ⟨i, j, rfl, rfl, q⟩ := h
  obtain ⟨t, rfl⟩ := rx
  obtain ⟨t', rfl⟩ := ry
  exact rule i j t t' s _ _ ⟨.bl (g i j), H, I, rfl, q⟩

def CDiv (i j : Int) : Prop := 0 < j ∧ j < 1073741824
def CDivN (i j : Int) : Prop := j ≠ 0 ∧ j.natAbs < 1073741824
def CPow (i j : Int) : Prop := 0 ≤ j ∧ j ≤ 1000000 ∧ i.natAbs < 2 ^ 64
def CMul (i j : Int) : Prop := (-(2 ^ 64) < i ∧ i < 2 ^ 64) ∨ (-(2 ^ 64) < j ∧ j < 2 ^ 64)
theorem CMul.ok {i j : Int} (h : CMul i j) : IntMulOk i j := by
  rcases h with ⟨h1, h2⟩ | ⟨h1, h2⟩
  · exact .of_left (intBits_le_64 h1 h2)
  · exact .of_right (intBits_le_64 h1 h2)
theorem op_add : OpR X (binaryOp .Add) (rI0 fun i j => .int (i + j)) := opI0 fun _ _ _ _ _ _ _ q => add_int q
theorem op_sub : OpR X (binaryOp .Sub) (rI0 fun i j => .int (i - j)) := opI0 fun _ _ _ _ _ _ _ q => sub_int q
theorem op_mul : OpR X (binaryOp .Mult) (rI CMul fun i j => .int (i * j)) := opI fun _ _ _ _ _ _ _ hc q => mul_int q hc.ok
/-- // by a positive divisor -/
theorem op_fdiv : OpR X (binaryOp .FloorDiv) (rI CDiv fun i j => .int (i / j)) := opI fun i j _ _ _ _ _ hc q => by
  have h1 : (0 : Int) < j := hc.1
  have h2 : j < 1073741824 := hc.2
  exact floordiv_int (by omega) (by rw [Int.fdiv_eq_ediv_of_nonneg i (by omega)]; exact q) (.inl (PyProof.noPylong_small (by omega)))
/-- % by a positive divisor of any size -/
theorem op_mod : OpR X (binaryOp .Mod) (rI (fun _ j => 0 < j) fun i j => .int (i % j)) := opI fun i j _ _ _ _ _ hc q => by
  have h1 : (0 : Int) < j := hc
  exact mod_int' (by omega) (by rw [Int.fmod_eq_emod_of_nonneg i (by omega)]; exact q)
theorem op_pow : OpR X (binaryOp .Pow) (rI CPow fun i j => .int (i ^ j.toNat)) := opI fun _ _ _ _ _ _ _ hc q => pow_int_small hc.1 hc.2.1 hc.2.2 q
theorem unI {f : Value → Sem Value} {g : Int → Int}
    (rule : ∀ (i : Int) (t : Tok) (s : Shared) (Q : Value → Shared → Prop) (E : Value → Shared → Prop), Q (.int (g i) s.toks) { s with toks := s.toks + 1 } → wpAny (model X.prog X.w) X.A (f (.int i t)) Q E s) :
    UnR X f (rU fun i => .int (g i)) := by
  intro pins s σ H x v Q I rx h
  obtain ⟨i, rfl, q⟩ := h
  obtain ⟨t, rfl⟩ := rx
  exact rule i t s _ _ ⟨.int (g i), H, I.tok _, ⟨_, rfl⟩, q⟩
theorem un_neg : UnR X (unaryOp .USub) (rU fun i => .int (-i)) := unI fun _ _ _ _ _ q => neg_int q
/-! ### bools among ints: n += (a < b) -/
end

/-! ### comparisons -/
/-- the scalars that == tells apart as data does -/
def scal : V → V → Bool
  | .non, .non => true | .non, .int _ => true | .int _, .non => true | .non, .bl _ => true | .bl _, .non => true | .non, .str _ => true | .str _, .non => true
  | .int _, .int _ => true | .bl _, .bl _ => true | .str _, .str _ => true | .byt _, .byt _ => true
  | .int _, .str _ => true | .str _, .int _ => true | .bl _, .str _ => true | .str _, .bl _ => true
  | _, _ => false
def rEq : R2 := fun x y H Q => scal x y = true ∧ Q (.bl (decide (x = y))) H
def rNe : R2 := fun x y H Q => scal x y = true ∧ Q (.bl (!decide (x = y))) H

theorem dec_int {i j : Int} : decide (V.int i = V.int j) = (i == j) := by
  rw [Bool.eq_iff_iff]
  simp
theorem dec_bl {i j : Bool} : decide (V.bl i = V.bl j) = (i == j) := by
  rw [Bool.eq_iff_iff]
  simp
theorem dec_str {i j : Str} : decide (V.str i = V.str j) = (i == j) := by
  rw [Bool.eq_iff_iff]
  simp
theorem dec_byt {i j : Array UInt8} : decide (V.byt i = V.byt j) = (i.toList == j.toList) := by
  rw [Bool.eq_iff_iff]
  cases i
  cases j
  simp

section
variable {X : Cx} {a b c : Expr} {ta tb tc : TE} {pos : Pos}
theorem fin_bl {pins : List (Addr × Obj)} {σ : St} {H : Hp} {s : Shared} {Q : VK} {k k' : Bool} (I : Inv X pins σ H s) (q : Q (.bl k) H) (e : k = k') : EP X pins σ Q (.bool k') s := by
  subst e
  exact ⟨.bl k, H, I, rfl, q⟩
theorem op_eq : OpR X (compareOp .Eq) rEq := by
  intro pins s σ H x y v u Q I rx ry h
  obtain ⟨hs, q⟩ := h
  cases x with
  | non =>
    cases rx
    cases y with
    | non => cases ry; exact PySem.EqNone.eq_none_none (fin_bl I q (by simp))
    | bl j => cases ry; exact PySem.EqNone.eq_none_bool (fin_bl I q (by simp))
    | int j => obtain ⟨t', rfl⟩ := ry; exact PySem.EqNone.eq_none_int (fin_bl I q (by simp))
    | str j => obtain ⟨t', rfl⟩ := ry; exact PySem.EqNone.eq_none_str (fin_bl I q (by simp))
    | _ => exact absurd (show false = true from hs) Bool.false_ne_true
  | bl i =>
    cases rx
    cases y with
    | non => cases ry; exact PySem.EqNone.eq_bool_none (fin_bl I q (by simp))
    | bl j => cases ry; exact eq_bool (fin_bl I q dec_bl)
    | str j => obtain ⟨t', rfl⟩ := ry; exact PySem.EqMixed.eq_bool_str (fin_bl I q (by simp))
    | _ => exact absurd (show false = true from hs) Bool.false_ne_true
  | int i =>
    obtain ⟨t, rfl⟩ := rx
    cases y with
    | non => cases ry; exact PySem.EqNone.eq_int_none (fin_bl I q (by simp))
    | int j => obtain ⟨t', rfl⟩ := ry; exact eq_int (fin_bl I q dec_int)
    | str j => obtain ⟨t', rfl⟩ := ry; exact PySem.EqMixed.eq_int_str (fin_bl I q (by simp))
    | _ => exact absurd (show false = true from hs) Bool.false_ne_true
  | str i =>
    obtain ⟨t, rfl⟩ := rx
    cases y with
    | non => cases ry; exact PySem.EqNone.eq_str_none (fin_bl I q (by simp))
    | bl j => cases ry; exact PySem.EqMixed.eq_str_bool (fin_bl I q (by simp))
    | int j => obtain ⟨t', rfl⟩ := ry; exact PySem.EqMixed.eq_str_int (fin_bl I q (by simp))
    | str j => obtain ⟨t', rfl⟩ := ry; exact eq_str (fin_bl I q dec_str)
    | _ => exact absurd (show false = true from hs) Bool.false_ne_true
  | byt i =>
    obtain ⟨t, rfl⟩ := rx
    cases y with
    | byt j => obtain ⟨t', rfl⟩ := ry; exact PySem.W.eq_bytes (fin_bl I q dec_byt)
    | _ => exact absurd (show false = true from hs) Bool.false_ne_true
  | _ => cases y <;> exact absurd (show false = true from hs) Bool.false_ne_true
theorem op_ne : OpR X (compareOp .NotEq) rNe := by
  intro pins s σ H x y v u Q I rx ry h
  obtain ⟨hs, q⟩ := h
  cases x with
  | non =>
    cases rx
    cases y with
    | non => cases ry; exact PySem.EqNone.ne_none_none (fin_bl I q (by simp))
    | bl j => cases ry; exact PySem.EqNone.ne_none_bool (fin_bl I q (by simp))
    | int j => obtain ⟨t', rfl⟩ := ry; exact PySem.EqNone.ne_none_int (fin_bl I q (by simp))
    | str j => obtain ⟨t', rfl⟩ := ry; exact PySem.EqNone.ne_none_str (fin_bl I q (by simp))
    | _ => exact absurd (show false = true from hs) Bool.false_ne_true
  | bl i =>
    cases rx
    cases y with
    | non => cases ry; exact PySem.EqNone.ne_bool_none (fin_bl I q (by simp))
    | bl j => cases ry; exact ne_bool (fin_bl I q (congrArg not dec_bl))
    | str j => obtain ⟨t', rfl⟩ := ry; exact PySem.EqMixed.ne_bool_str (fin_bl I q (by simp))
    | _ => exact absurd (show false = true from hs) Bool.false_ne_true
  | int i =>
    obtain ⟨t, rfl⟩ := rx
    cases y with
    | non => cases ry; exact PySem.EqNone.ne_int_none (fin_bl I q (by simp))
    | int j => obtain ⟨t', rfl⟩ := ry; exact ne_int (fin_bl I q (congrArg not dec_int))
    | str j => obtain ⟨t', rfl⟩ := ry; exact PySem.EqMixed.ne_int_str (fin_bl I q (by simp))
    | _ => exact absurd (show false = true from hs) Bool.false_ne_true
  | str i =>
    obtain ⟨t, rfl⟩ := rx
    cases y with
    | non => cases ry; exact PySem.EqNone.ne_str_none (fin_bl I q (by simp))
    | bl j => cases ry; exact PySem.EqMixed.ne_str_bool (fin_bl I q (by simp))
    | int j => obtain ⟨t', rfl⟩ := ry; exact PySem.EqMixed.ne_str_int (fin_bl I q (by simp))
    | str j => obtain ⟨t', rfl⟩ := ry; exact ne_str (fin_bl I q (congrArg not dec_str))
    | _ => exact absurd (show false = true from hs) Bool.false_ne_true
  | byt i =>
    obtain ⟨t, rfl⟩ := rx
    cases y with
    | byt j => obtain ⟨t', rfl⟩ := ry; exact PySem.W.ne_bytes (fin_bl I q (congrArg not dec_byt))
    | _ => exact absurd (show false = true from hs) Bool.false_ne_true
  | _ => cases y <;> exact absurd (show false = true from hs) Bool.false_ne_true

theorem op_lt : OpR X (compareOp .Lt) (rI0 fun i j => .bl (decide (i < j))) := opB0 fun _ _ _ _ _ _ _ q => lt_int q
theorem op_le : OpR X (compareOp .LtE) (rI0 fun i j => .bl (decide (i ≤ j))) := opB0 fun _ _ _ _ _ _ _ q => le_int q
theorem op_gt : OpR X (compareOp .Gt) (rI0 fun i j => .bl (decide (j < i))) := opB0 fun _ _ _ _ _ _ _ q => gt_int q
theorem op_ge : OpR X (compareOp .GtE) (rI0 fun i j => .bl (decide (j ≤ i))) := opB0 fun _ _ _ _ _ _ _ q => ge_int q
theorem op_notN : OpR X (compareOp .IsNot) (fun x y H Q => y = .non ∧ Q (.bl (!decide (x = .non))) H) := by
  intro pins s σ H x y v u Q I rx ry h
  obtain ⟨rfl, q⟩ := h
  cases ry
  refine isnot_none_gen (fin_bl I q ?_)
  cases x <;> first
    | (cases rx; rfl)
    | (obtain ⟨t, rfl⟩ := rx; rfl)

/-- is, is not of two objects that are tracked lists or instances -/
def isObj : HO → Bool
  | .lst _ => true
  | .ins _ _ _ => true
  | _ => false
theorem nomark (b : Expr) {op : CmpOp} (h : op ≠ .In := by decide) (h2 : op ≠ .NotIn := by decide) : behindInMarks op b = false := by
  have e1 : (op == CmpOp.In) = false := by cases op <;> first | rfl | exact absurd rfl h
  have e2 : (op == CmpOp.NotIn) = false := by cases op <;> first | rfl | exact absurd rfl h2
  cases b <;> simp [behindInMarks, e1, e2]
/-- a comparison as a value; hm: nomark b, or (for in, not in) by with_unfolding_all rfl -/
theorem pe_cmpR {op : CmpOp} {r : R2} (ho : OpR X (compareOp op) r) (ha : PE X a ta) (hb : PE X b tb) (hm : behindInMarks op b = false) : PE X (.Compare a [op] [b] pos) (tOp r ta tb) := by
  intro pins s σ H Q I h
  exact wpAny_Compare1 (binT ha hb I h fun v u s2 x y H2 I2 rx ry q => ho pins s2 σ H2 x y v u Q I2 rx ry q) hm
/-- a reading of a value as a test -/
def tTest (t : TE) : TT := fun σ H Q => t σ H fun x H' => ∃ k, x = .bl k ∧ Q k H'
theorem pt_cmpR {op : CmpOp} {r : R2} (ho : OpR X (compareOp op) r) (ha : PE X a ta) (hb : PE X b tb) (hm : behindInMarks op b = false) : PT X (.Compare a [op] [b] pos) (tTest (tOp r ta tb)) := by
  intro pins s σ H Q I h
  refine wpAny_isTrue_Compare1 (thn (ha pins s σ H _ I h) fun v s1 ⟨x, H1, I1, r1, q1⟩ => thn (hb pins s1 σ H1 _ I1 q1) fun u s2 ⟨y, H2, I2, r2, q2⟩ =>
    thn (ho pins s2 σ H2 x y v u _ I2 r1 r2 q2) fun c s3 ⟨z, H3, I3, r3, k, e, q3⟩ => ?_) hm
  subst e
  cases r3
  exact wpAny_truthy_bool ⟨H3, I3, q3⟩
/-- a op1 b op2 c -/
def tChain (r r' : R2) (ta tb tc : TE) : TE := fun σ H Q => ta σ H fun x H1 => tb σ H1 fun y H2 => r x y H2 fun z H3 => ∃ k, z = .bl k ∧
  (if k = true then tc σ H3 fun w' H4 => r' y w' H4 Q else Q (.bl false) H3)
theorem pe_chain {op op' : CmpOp} {r r' : R2} (ho : OpR X (compareOp op) r) (ho' : OpR X (compareOp op') r') (ha : PE X a ta) (hb : PE X b tb) (hc : PE X c tc)
    (hm : lastMarks [op, op'] [b, c] = false := by with_unfolding_all rfl) : PE X (.Compare a [op, op'] [b, c] pos) (tChain r r' ta tb tc) := by
  intro pins s σ H Q I h
  refine Compare_chain (thn (ha pins s σ H _ I h) fun v s1 ⟨x, H1, I1, r1, q1⟩ => chain_link (thn (hb pins s1 σ H1 _ I1 q1) fun u s2 ⟨y, H2, I2, r2, q2⟩ =>
    thn (ho pins s2 σ H2 x y v u _ I2 r1 r2 q2) fun d s3 ⟨z, H3, I3, r3, k, e, q3⟩ => ?_)) hm
  subst e
  cases r3
  refine wpAny_truthy_bool ?_
  cases k with
  | false => exact ite_ff ⟨.bl false, H3, I3, rfl, q3⟩
  | true => exact ite_tt (chain_last (thn (hc pins s3 σ H3 _ I3 q3) fun w' s4 ⟨z', H4, I4, r4, q4⟩ => ho' pins s4 σ H4 y z' u w' Q I4 r2 r4 q4))
/-! ### truth -/
/-- a value's truth by the abstract heap -/
def TruV (K : PySem.W.Frag) (x : V) (H : Hp) (k : Bool) : Prop :=
  match x with
  | .non => k = false
  | .bl b => k = b
  | .int i => k = (i != 0)
  | .str y => y.length ≤ sizeLine ∧ k = ((y.length : Int) != 0)
  | .byt y => y.size ≤ sizeLine ∧ k = ((y.size : Int) != 0)
  | .ref p => (∃ xs, SqL K H p xs ∧ k = !xs.isEmpty) ∨ (∃ xs, SqT K H p xs ∧ k = !xs.isEmpty) ∨ ∃ kvs, H p = some (.dK kvs) ∧ k = !kvs.isEmpty
  | _ => False
theorem isEmpty_kv {κ : Type} {kvs : List (κ × V)} {vs : List (κ × Value)} (r : KV kvs vs) : (!vs.isEmpty) = !kvs.isEmpty := by
  cases r <;> rfl
theorem isEmpty_of {xs : List V} {its : List Value} (r : Vals xs its) : (!its.toArray.isEmpty) = !xs.isEmpty := by
  cases r <;> simp
theorem line63 : (sizeLine : Nat) < 2 ^ 63 := by rw [sizeLine_eq]; decide
theorem tru_ok : TruR X (fun x H Q => ∃ k, TruV X.K x H k ∧ Q k H) := by
  intro pins s σ H x v Q I rx h
  obtain ⟨k, e, q⟩ := h
  have hl := line63
  have hs : sizeLine = 16777216 := sizeLine_eq
  cases x with
  | non =>
    cases rx
    have e' : k = false := e
    subst e'
    exact truthy_none ⟨H, I, q⟩
  | bl b =>
    cases rx
    have e' : k = b := e
    subst e'
    exact wpAny_truthy_bool ⟨H, I, q⟩
  | int i =>
    obtain ⟨t, rfl⟩ := rx
    have e' : k = (i != 0) := e
    subst e'
    exact PySem.P.truthy_int ⟨H, I, q⟩
  | str y =>
    obtain ⟨t, rfl⟩ := rx
    obtain ⟨hy, e'⟩ : y.length ≤ sizeLine ∧ k = ((y.length : Int) != 0) := e
    subst e'
    exact PySem.P.truthy_str (by omega) ⟨H, I.tok _, q⟩
  | byt y =>
    obtain ⟨t, rfl⟩ := rx
    obtain ⟨hy, e'⟩ : y.size ≤ sizeLine ∧ k = ((y.size : Int) != 0) := e
    subst e'
    exact PySem.W.truthy_bytes (by omega) ⟨H, I.tok _, q⟩
  | ref p =>
    cases rx
    have e' : (∃ xs, SqL X.K H p xs ∧ k = !xs.isEmpty) ∨ (∃ xs, SqT X.K H p xs ∧ k = !xs.isEmpty) ∨ ∃ kvs, H p = some (.dK kvs) ∧ k = !kvs.isEmpty := e
    rcases e' with ⟨xs, hx, e'⟩ | ⟨xs, hx, e'⟩ | ⟨kvs, hx, e'⟩
    · subst e'
      obtain ⟨its, r, pl, hz⟩ := I.list hx
      have hlen := r.length
      exact wpAny_truthy_list pl.isList (by simp only [List.size_toArray]; omega) ⟨H, I.tok _, by rw [isEmpty_of r]; exact q⟩
    · subst e'
      obtain ⟨its, r, pl, hz⟩ := I.tuple hx
      have hlen := r.length
      exact truthy_tuple pl (by simp only [List.size_toArray]; omega) ⟨H, I.tok _, by rw [isEmpty_of r]; exact q⟩
    · subst e'
      obtain ⟨hz, hS, vs, r, m⟩ : kvs.length ≤ sizeLine ∧ (p == sysModules) = false ∧ ∃ vs, KV kvs vs ∧ s.heap.DictOf (mixKind X.prog X.w) p vs := I.hok p _ hx
      have hlen : kvs.length = vs.length := Paired.length r
      exact wpAny_truthy_dict hS m (by omega) ⟨H, I.tok _, by rw [isEmpty_kv r]; exact q⟩
  | _ => exact (show False from e).elim
/-- any expression whose test is its value's truth (a name, a call, a subscript, a field ..: he by fun _ => rfl) -/
theorem pt_truth (ha : PE X a ta) (he : ∀ whole, isTrue a X.env whole = (do let v ← whole; standAt a.pos; holding [v] (truthy v))) :
    PT X a (fun σ H Q => ta σ H fun x H' => ∃ k, TruV X.K x H' k ∧ Q k H') := by
  intro pins s σ H Q I h
  exact isTrue_plain (thn (ha pins s σ H _ I h) fun v s1 ⟨x, H1, I1, r1, q1⟩ => tru_ok pins s1 σ H1 x v Q I1 r1 q1) (he _)

/-! ### strs and bytes -/
def PlainIxT (b : Expr) : Prop := ∀ o i, subscripted b false o i = operate [o, i] (getItem o i)
/-! ### scalar builtins, by CallR -/
theorem vals1 {x : V} {us : List Value} (r : Vals [x] us) : ∃ u, us = [u] ∧ RelV x u := by
  cases r with
  | cons r1 r2 => cases r2; exact ⟨_, rfl, r1⟩
theorem vals2 {x y : V} {us : List Value} (r : Vals [x, y] us) : ∃ u w', us = [u, w'] ∧ RelV x u ∧ RelV y w' := by
  cases r with
  | cons r1 r2 =>
    cases r2 with
    | cons r3 r4 => cases r4; exact ⟨_, _, rfl, r1, r3⟩
theorem call_max2 (hc : X.calm = true) : CallR X (.builtin "max") (fun xs H Q => ∃ i j, xs = [.int i, .int j] ∧ Q (.int (if j > i then j else i)) H) := by
  intro pins s σ H xs us Q I r h
  obtain ⟨i, j, rfl, q⟩ := h
  obtain ⟨u, w', rfl, ⟨t, rfl⟩, ⟨t', rfl⟩⟩ := vals2 r
  refine max_two_ints (I.ok.hd hc) fun h' tk k => ⟨_, H, I.kept k, ?_, q⟩
  by_cases hj : j > i
  · rw [if_pos hj, if_pos hj]; exact ⟨_, rfl⟩
  · rw [if_neg hj, if_neg hj]; exact ⟨_, rfl⟩
theorem call_min2 (hc : X.calm = true) : CallR X (.builtin "min") (fun xs H Q => ∃ i j, xs = [.int i, .int j] ∧ Q (.int (if j < i then j else i)) H) := by
  intro pins s σ H xs us Q I r h
  obtain ⟨i, j, rfl, q⟩ := h
  obtain ⟨u, w', rfl, ⟨t, rfl⟩, ⟨t', rfl⟩⟩ := vals2 r
  refine min_two_ints (I.ok.hd hc) fun h' tk k => ⟨_, H, I.kept k, ?_, q⟩
  by_cases hj : j < i
  · rw [if_pos hj, if_pos hj]; exact ⟨_, rfl⟩
  · rw [if_neg hj, if_neg hj]; exact ⟨_, rfl⟩
theorem call_int1 : CallR X (.type "int") (fun xs H Q => (∃ i, xs = [.int i] ∧ Q (.int i) H) ∨ ∃ k, xs = [.bl k] ∧ Q (.int (if k then 1 else 0)) H) := by
  intro pins s σ H xs us Q I r h
  rcases h with ⟨i, rfl, q⟩ | ⟨k, rfl, q⟩
  · obtain ⟨u, rfl, t, rfl⟩ := vals1 r
    exact call_int_int ⟨.int i, H, I, ⟨_, rfl⟩, q⟩
  · obtain ⟨u, rfl, r1⟩ := vals1 r
    cases r1
    exact call_int_bool ⟨.int (if k then 1 else 0), H, I.tok _, ⟨_, rfl⟩, q⟩
/-- len of a str, a bytes, a list, a tuple -/
def LenV (K : PySem.W.Frag) (x : V) (H : Hp) (n : Nat) : Prop :=
  match x with
  | .str y => y.length ≤ sizeLine ∧ n = y.length
  | .byt y => y.size ≤ sizeLine ∧ n = y.size
  | .ref p => (∃ xs, SqL K H p xs ∧ n = xs.length) ∨ ∃ xs, SqT K H p xs ∧ n = xs.length
  | _ => False
end
end L2

namespace L2
open PySem PySem.Spec PyProof.Rows

/-! ### an instance, its attributes a map -/
structure ObjM (h : Heap) (x dx C : Addr) (mA : Str → Option Value) : Prop where
  obj : h.get? x = some (PySem.W.instObj C dx)
  ns : h.Ns1 dx mA
  ne : dx ≠ x

theorem lookIn_ns {h : Heap} {dx : Addr} {mA : Str → Option Value} (n : h.Ns1 dx mA) : ∃ od, h.get? dx = some od ∧ ∀ name, PySem.W.lookIn name od = some (mA name) := by
  obtain ⟨o, es, ep, ho, hd, hk, _, hm⟩ := n
  refine ⟨o, ho, fun name => ?_⟩
  have e := hm name
  unfold nsFind findBy at e
  rw [← Array.find?_toList] at e
  unfold PySem.W.lookIn
  rw [hd]
  dsimp only
  split
  · rename_i y q
    rw [q] at e
    exact congrArg some e
  · rename_i q
    rw [q] at e
    have a : es.toList.any (·.refKey) = false := by
      rw [List.any_eq_false]
      intro y hy
      obtain ⟨z, t, hkey⟩ := hk y (Array.mem_toList_iff.mp hy)
      simp [DictEntry.refKey, hkey]
    have a' : ¬ es.toList.any (·.refKey) = true := by rw [a]; exact Bool.false_ne_true
    rw [if_neg a']
    exact congrArg some e

theorem ObjM.look {h : Heap} {x dx C : Addr} {mA : Str → Option Value} (I : ObjM h x dx C mA) : ∃ od, PySem.W.InstAt h x (PySem.W.instObj C dx) C (some od) ∧ ∀ name, PySem.W.lookIn name od = some (mA name) :=
  let ⟨od, ho, hl⟩ := lookIn_ns I.ns
  ⟨od, ⟨I.obj, rfl, rfl, ho⟩, hl⟩

section
variable {prog : Program} {w : World} {A : Around} {E : Value → Shared → Prop} {s : Shared} {K : PySem.W.Frag} {x dx C f : Addr} {mA : Str → Option Value} {name : Str} {v : Value}

theorem get_map {expr : Bool} {Q : Value → Shared → Prop} (X : K.In s.heap) (I : ObjM s.heap x dx C mA) (hg : PySem.W.plainGet K C name = true) (hh : PySem.W.hasDictIn K C = true)
    (ha : PySem.W.findIn K (.ref C) name = some none) (hv : mA name = some v) (hv' : PySem.W.handedIn v = true) (h : Q v { s with toks := s.toks + 1 }) :
    wpAny (model prog w) A (getAttr (.ref x) name expr) Q E s := by
  obtain ⟨od, J, hl⟩ := I.look
  exact PySem.W.get_value X J (PySem.W.plainGet_of hg).1 (PySem.W.findObj_own hh ha rfl (by rw [hl, hv])) hv' h

theorem get_meth {pl : Sem Bool} {Q : Value × List Value → Shared → Prop} (X : K.In s.heap) (I : ObjM s.heap x dx C mA) (hg : PySem.W.plainGet K C name = true)
    (hf : PySem.W.findIn K (.ref C) name = some (some (.ref f))) (ht : PySem.W.isFn K (.ref f) = true) (hv : mA name = none) (h : Q (.ref f, [.ref x]) s) :
    wpAny (model prog w) A (getMethod (.ref x) name pl) Q E s := by
  obtain ⟨od, J, hl⟩ := I.look
  exact PySem.W.method_fn X J (PySem.W.plainGet_of hg).1 (PySem.W.plainGet_of hg).2 hf (beq_iff_eq.mp ht) (by show (PySem.W.lookIn name od).map (·.isSome) = some false; rw [hl, hv]; rfl) h

theorem set_map {ns : List Str} {Q : Unit → Shared → Prop} (X : K.In s.heap) (I : ObjM s.heap x dx C mA)
    (hs : PySem.W.findIn K (.ref C) "__setattr__" = some (some (.builtin "object.__setattr__"))) (hp : PySem.W.plainOver K C = true) (ht : PySem.W.takerIn K C name = some none) (hh : PySem.W.hasDictIn K C = true)
    (hw : PySem.Within mA ns) (hsz : ns.length ≤ sizeLine)
    (h : ∀ h', ObjM h' x dx C (fun y => if y = name then some v else mA y) → Heap.SameBut dx s.heap h' → Q () { s with heap := h', toks := s.toks + 2 }) :
    wpAny (model prog w) A (setAttr (.ref x) name v) Q E s := by
  obtain ⟨od, J, hl⟩ := I.look
  refine PySem.W.set_plain X J hs (PySem.W.osa_open (s := { s with toks := s.toks + 1 }) (r := none) X J hp ht fun b => ?_)
  obtain ⟨cd, hc, hd'⟩ := PySem.W.any_some hh
  have hx : s.heap.get? x = some ⟨.ref C, some dx, .plain, #[]⟩ := I.obj
  refine wpAny_bind (wpAny_pure (wpAny_bind (wpAny_bind (wpAny_loadPart hx (wpAny_bind (PySem.W.Looks.here (s := { s with toks := s.toks + 1 }) (PySem.W.looks_clsIn X hc) ?_))))))
  rw [hd']
  refine wpAny_pure (a := some dx) (wpAny_bind (wpAny_pure (wpAny_bind ?_)))
  refine wpAny_nsSet1 (s := { s with toks := s.toks + 1 }) I.ns fun h' hn2 hs2 => ?_
  obtain ⟨oD, esD, epD, hoD, hdD, hcD⟩ := hn2.count (PySem.Within.cons name v hw)
  refine wpAny_bind (wpAny_lookBehind hoD (by rw [hdD]; exact pastItsLine_dict (Nat.le_trans hcD (by rw [List.length_cons]; omega))) ?_)
  exact wpAny_pure (h _ ⟨(hs2.2 _ (Ne.symm I.ne)).trans I.obj, hn2, I.ne⟩ hs2)

/-- C(..): the dict at the heap's end, the instance behind it; then its __init__ -/
theorem make_map {R : Result → Shared → Prop} {vs : List Value} {kw : List (Str × Value)} (X : K.In s.heap) (hm : PySem.W.makesIn K C = true)
    (hi : PySem.W.findIn K (.ref C) "__init__" = some (some (.ref f))) (hf : PySem.W.typeIn K (.ref f) = some (.type "function"))
    (h : codeAny (model prog w) (A.under (.builtin "type.__call__" ⟨.ref C :: vs, kw⟩)) (.call (.ref f) ⟨.ref (s.heap.objs.size + 1) :: vs, kw⟩) (PySem.W.InitBack (s.heap.objs.size + 1) R)
      { s with heap := (s.heap.push PySem.W.emptyDict).push (PySem.W.instObj C s.heap.objs.size) }) :
    codeAny (model prog w) A (.call (.ref C) ⟨vs, kw⟩) R s := by
  obtain ⟨hh, g, d, t, os⟩ := s
  exact PySem.W.make_core (PySem.W.makes_of X hm) (PySem.W.looks_findIn X hi) (fun self => PySem.W.bind_fn X self hf) (.inl rfl) h
end

/-! ### the attributes as a list of pairs -/
def putF (f : Str) (v : V) : List (Str × V) → List (Str × V)
  | [] => [(f, v)]
  | (g, x) :: r => if g = f then (g, v) :: r else (g, x) :: putF f v r
theorem lookup_putF (f g : Str) (v : V) : ∀ fs : List (Str × V), (putF f v fs).lookup g = if g = f then some v else fs.lookup g
  | [] => by
    show List.lookup g [(f, v)] = _
    by_cases h : g = f
    · have hb : (g == f) = true := beq_iff_eq.mpr h
      simp only [List.lookup, hb, if_pos h]
    · have hb : (g == f) = false := beq_eq_false_iff_ne.mpr h
      simp only [List.lookup, hb, if_neg h]
  | (k, x) :: r => by
    have ih := lookup_putF f g v r
    rw [show putF f v ((k, x) :: r) = (if k = f then (k, v) :: r else (k, x) :: putF f v r) from rfl]
    by_cases hk : k = f
    · rw [if_pos hk]
      by_cases h : g = k
      · have hb : (g == k) = true := beq_iff_eq.mpr h
        simp only [List.lookup, hb, if_pos (h.trans hk)]
      · have hb : (g == k) = false := beq_eq_false_iff_ne.mpr h
        simp only [List.lookup, hb, if_neg (fun e : g = f => h (e.trans hk.symm))]
    · rw [if_neg hk]
      by_cases h : g = k
      · have hb : (g == k) = true := beq_iff_eq.mpr h
        simp only [List.lookup, hb, if_neg (fun e : g = f => hk (h.symm.trans e))]
      · have hb : (g == k) = false := beq_eq_false_iff_ne.mpr h
        simp only [List.lookup, hb]
        exact ih
theorem keys_putF (f : Str) (v : V) : ∀ fs : List (Str × V), f ∈ (putF f v fs).map (·.1) ∧ ∀ g, g ∈ fs.map (·.1) → g ∈ (putF f v fs).map (·.1)
  | [] => ⟨by simp [putF], fun g h => by simp at h⟩
  | (k, x) :: r => by
    obtain ⟨i1, i2⟩ := keys_putF f v r
    rw [show putF f v ((k, x) :: r) = (if k = f then (k, v) :: r else (k, x) :: putF f v r) from rfl]
    by_cases hk : k = f
    · rw [if_pos hk]
      subst hk
      exact ⟨by simp, fun g h => by simpa using h⟩
    · rw [if_neg hk]
      refine ⟨?_, fun g h => ?_⟩
      · rw [List.map_cons]
        exact List.mem_cons_of_mem _ i1
      · rw [List.map_cons] at h ⊢
        rcases List.mem_cons.mp h with e | e
        · exact List.mem_cons.mpr (.inl e)
        · exact List.mem_cons_of_mem _ (i2 g e)
theorem length_putF (f : Str) (v : V) : ∀ fs : List (Str × V), (putF f v fs).length ≤ fs.length + 1
  | [] => by simp [putF]
  | (k, x) :: r => by
    have ih := length_putF f v r
    rw [show putF f v ((k, x) :: r) = (if k = f then (k, v) :: r else (k, x) :: putF f v r) from rfl]
    by_cases hk : k = f
    · rw [if_pos hk, List.length_cons, List.length_cons]; omega
    · rw [if_neg hk, List.length_cons, List.length_cons]; omega

theorem RelO.some_of {v : V} {o : Option Value} (r : RelO (some v) o) : ∃ u, o = some u ∧ RelV v u := by
  cases o with
  | none => exact (show False from r).elim
  | some u => exact ⟨u, rfl, r⟩
theorem RelO.none_of {o : Option Value} (r : RelO none o) : o = none := by
  cases o with
  | none => rfl
  | some u => exact (show False from r).elim
theorem handed_of {v : V} {u : Value} (r : RelV v u) : PySem.W.handedIn u = true := by
  cases v with
  | non => cases (show u = Value.none from r); rfl
  | bl b => cases (show u = Value.bool b from r); rfl
  | int i => obtain ⟨t, e⟩ := (show ∃ t, u = Value.int i t from r); cases e; rfl
  | str x => obtain ⟨t, e⟩ := (show ∃ t, u = Value.str x t from r); cases e; rfl
  | byt b => obtain ⟨t, e⟩ := (show ∃ t, u = Value.bytes b t from r); cases e; rfl
  | flt b => obtain ⟨t, e⟩ := (show ∃ t, u = Value.float b t from r); cases e; rfl
  | ref a => cases (show u = Value.ref a from r); rfl
  | ty n => cases (show u = Value.type n from r); rfl

section
variable {P : Program} {w : World} {H H' : Hp} {h h' : Heap} {a C dx : Addr} {fs fs' : List (Str × V)}
theorem ins_get (hok : HOk P w H h) (e : H a = some (.ins C dx fs)) : ∃ mA, ObjM h a dx C mA ∧ (∀ f, RelO (fs.lookup f) (mA f)) ∧ PySem.Within mA (fs.map (·.1)) ∧ fs.length ≤ 1000 ∧ H dx = some (.own a) := by
  obtain ⟨d, z, ne, ob, mA, n, r, q⟩ := (show ObjOk P w H h a (.ins C dx fs) from hok a _ e)
  exact ⟨mA, ⟨ob, n, ne⟩, r, q, z, d⟩
end

/-! ### what of the text a class must have -/
structure Cls (K : PySem.W.Frag) (C : Addr) : Prop where
  pg : PySem.W.plainGet K C Str.empty = true
  hd : PySem.W.hasDictIn K C = true
  po : PySem.W.plainOver K C = true
  sa : PySem.W.findIn K (.ref C) "__setattr__" = some (some (.builtin "object.__setattr__"))
theorem Cls.get {K : PySem.W.Frag} {C : Addr} (c : Cls K C) (f : Str) : PySem.W.plainGet K C f = true := c.pg
/-- no class of it has the name -/
def NoAttr (K : PySem.W.Frag) (C : Addr) (f : Str) : Prop := PySem.W.findIn K (.ref C) f = some none
theorem NoAttr.taker {K : PySem.W.Frag} {C : Addr} {f : Str} (n : NoAttr K C f) : PySem.W.takerIn K C f = some none := by
  unfold PySem.W.takerIn
  rw [show PySem.W.findIn K (.ref C) f = some none from n]
  rfl
/-- a constant of the class -/
structure Con (K : PySem.W.Frag) (C : Addr) (f : Str) (v : V) (u : Value) : Prop where
  at_ : PySem.W.findIn K (.ref C) f = some (some u)
  rel : RelV v u
  get : PySem.W.specialIn K u "__get__" = some none
  cp : PySem.W.copiedNames.contains f = false
/-- a method: a plain def of the class or of one above it -/
structure Meth (K : PySem.W.Frag) (C : Addr) (m : Str) (f : Addr) : Prop where
  at_ : PySem.W.findIn K (.ref C) m = some (some (.ref f))
  fn : PySem.W.isFn K (.ref f) = true
  kp : PySem.W.keepIn K (.ref f) = true

section
variable {X : Cx} {pins : List (Addr × Obj)} {σ : St} {H : Hp} {s : Shared} {a C dx : Addr} {fs : List (Str × V)} {f : Str} {v : V} {A : Around} {E : Value → Shared → Prop}

theorem getattr_ok {b : Bool} {Q : Value → Shared → Prop} (I : Inv X pins σ H s) (e : H a = some (.ins C dx fs)) (c : Cls X.K C) (n : NoAttr X.K C f) (l : fs.lookup f = some v)
    (h : ∀ u s', Inv X pins σ H s' → RelV v u → Q u s') : wpAny (model X.prog X.w) A (getAttr (.ref a) f b) Q E s := by
  obtain ⟨mA, O, r, _, _, _⟩ := ins_get I.hok e
  obtain ⟨u, hu, ru⟩ := RelO.some_of (v := v) (o := mA f) (by rw [← l]; exact r f)
  exact get_map I.kIn O (c.get f) c.hd n hu (handed_of ru) (h u _ (I.tok _) ru)

theorem getmeth_ok {m : Str} {g : Addr} {pl : Sem Bool} {Q : Value × List Value → Shared → Prop} (I : Inv X pins σ H s) (e : H a = some (.ins C dx fs)) (c : Cls X.K C) (k : Meth X.K C m g) (l : fs.lookup m = none)
    (h : Q (.ref g, [.ref a]) s) : wpAny (model X.prog X.w) A (getMethod (.ref a) m pl) Q E s := by
  obtain ⟨mA, O, r, _, _, _⟩ := ins_get I.hok e
  have hn : mA m = none := RelO.none_of (by rw [← l]; exact r m)
  exact get_meth I.kIn O (c.get m) k.at_ k.fn hn h

theorem setattr_ok {y : V} {u : Value} {Q : Unit → Shared → Prop} (I : Inv X pins σ H s) (e : H a = some (.ins C dx fs)) (c : Cls X.K C) (n : NoAttr X.K C f) (hl : fs.length < 1000) (ry : RelV y u)
    (h : ∀ s', Inv X pins σ (upd H a (.ins C dx (putF f y fs))) s' → Q () s') : wpAny (model X.prog X.w) A (setAttr (.ref a) f u) Q E s := by
  obtain ⟨mA, O, r, wi, _, ho⟩ := ins_get I.hok e
  have hz : (fs.map (·.1)).length ≤ sizeLine := by rw [List.length_map, sizeLine_eq]; omega
  refine set_map I.kIn O c.sa c.po n.taker c.hd wi hz fun h' O' sb => h _ ?_
  have hd : ∃ o, h'.get? dx = some o := let ⟨o, _, _, e', _⟩ := O'.ns; ⟨o, e'⟩
  refine I.write (x := a) (e := dx) (by rw [e]; exact True.intro) (.inr ho) (fun b q hb z => (sb.2 b hb).trans z) hd ?_
  refine ⟨by rw [upd_ne O.ne]; exact ho, ?_, O.ne, O'.obj, _, O'.ns, fun g => ?_, fun g hg => ?_⟩
  · have := length_putF f y fs; omega
  · show RelO ((putF f y fs).lookup g) (if g = f then some u else mA g)
    rw [lookup_putF]
    by_cases q : g = f
    · rw [if_pos q, if_pos q]; exact ry
    · rw [if_neg q, if_neg q]; exact r g
  · by_cases q : g = f
    · rw [q]; exact (keys_putF f y fs).1
    · refine (keys_putF f y fs).2 g (wi g fun z => hg ?_)
      show (if g = f then some u else mA g) = none
      rw [if_neg q]; exact z

/-- a new instance, tracked, without attributes -/
theorem Inv.made (I : Inv X pins σ H s) : Inv X pins σ (upd (upd H s.heap.objs.size (.own (s.heap.objs.size + 1))) (s.heap.objs.size + 1) (.ins C s.heap.objs.size []))
    { s with heap := (s.heap.push PySem.W.emptyDict).push (PySem.W.instObj C s.heap.objs.size) } := by
  have e1 : (s.heap.push PySem.W.emptyDict).get? s.heap.objs.size = some PySem.W.emptyDict := Heap.get?_push_size s.heap rfl
  have e2 : ((s.heap.push PySem.W.emptyDict).push (PySem.W.instObj C s.heap.objs.size)).get? (s.heap.objs.size + 1) = some (PySem.W.instObj C s.heap.objs.size) := by
    have := Heap.get?_push_size (s.heap.push PySem.W.emptyDict) (o := PySem.W.instObj C s.heap.objs.size) rfl
    rwa [Heap.size_push] at this
  have e3 : (s.heap.push PySem.W.emptyDict).Ns s.heap.objs.size (fun _ => none) := ⟨PySem.W.emptyDict, #[], _, e1, rfl, (fun e he => absurd he (by simp)), fun _ => rfl⟩
  have I1 := I.laid (a := s.heap.objs.size) (o := .own (s.heap.objs.size + 1)) (h' := s.heap.push PySem.W.emptyDict) (t' := s.toks) (fun b u q => Heap.get?_push_of_some _ q) (Nat.le_refl _) ⟨_, e1⟩
  refine I1.laid (a := s.heap.objs.size + 1) (o := .ins C s.heap.objs.size []) (t' := s.toks) (fun b u q => Heap.get?_push_of_some _ q) (Nat.le_of_eq (Heap.size_push _ _)) ?_
  have ne : s.heap.objs.size ≠ s.heap.objs.size + 1 := Nat.ne_of_lt (Nat.lt_succ_self _)
  refine ⟨by rw [upd_ne ne, upd_same], Nat.zero_le _, ne, e2, fun _ => none, (Heap.Ns1.of_empty e3).at fun o q => Heap.get?_push_of_some _ q, fun _ => True.intro, fun y hy => absurd rfl hy⟩

/-- e.f where nothing but the object is asked: through attributeBase (super) and the last hold -/
theorem attr_of {prog : Program} {w : World} {env : Env} {e : Expr} {f : Str} {pos : Pos} {s : Shared} {Q : Value → Shared → Prop} (hb : attributeBase e f env (eval e env) = eval e env)
    (h : wpAny (model prog w) A (eval e env) (fun o s₁ => wpAny (model prog w) A (getAttr o f true) Q E s₁) E s) : wpAny (model prog w) A (eval (.Attribute e f pos) env) Q E s :=
  Attribute_any_ h (by rw [arm_eval_Attribute, hb])
end

/-! ### readings and rules -/
/-- e.f, an attribute of the instance -/
def tFld (K : PySem.W.Frag) (ta : TE) (f : Str) : TE := fun σ H Q => ta σ H fun x H1 => ∃ a C dx fs v, x = .ref a ∧ H1 a = some (.ins C dx fs) ∧ Cls K C ∧ NoAttr K C f ∧ fs.lookup f = some v ∧ Q v H1
/-- e.f, a constant of the class -/
def tCon (K : PySem.W.Frag) (ta : TE) (f : Str) : TE := fun σ H Q => ta σ H fun x H1 => ∃ a C dx fs v u, x = .ref a ∧ H1 a = some (.ins C dx fs) ∧ Cls K C ∧ Con K C f v u ∧ fs.lookup f = none ∧ Q v H1
/-- e.f = value -/
def sFld (K : PySem.W.Frag) (ta tv : TE) (f : Str) : TS := fun D σ H => tv σ H fun y H1 => ta σ H1 fun x H2 => ∃ a C dx fs, x = .ref a ∧ H2 a = some (.ins C dx fs) ∧ Cls K C ∧ NoAttr K C f ∧ fs.length < 1000 ∧
  D.nx σ (upd H2 a (.ins C dx (putF f y fs)))
/-- an augmented operator on two values -/
def InOp (X : Cx) (op : Operator) (rd : V → V → Hp → VK → Prop) : Prop :=
  ∀ (pins : List (Addr × Obj)) (s : Shared) (σ : St) (H : Hp) (x y : V) (u v : Value) (Q : VK), Inv X pins σ H s → RelV x u → RelV y v → rd x y H Q → wpAny (model X.prog X.w) X.A (inplaceOp op u v) (EP X pins σ Q) X.xe s
/-- e.f op= value -/
def sFldAug (K : PySem.W.Frag) (ta tv : TE) (rd : V → V → Hp → VK → Prop) (f : Str) : TS := fun D σ H => ta σ H fun x H1 => ∃ a C dx fs v, x = .ref a ∧ H1 a = some (.ins C dx fs) ∧ Cls K C ∧ NoAttr K C f ∧ fs.lookup f = some v ∧
  tv σ H1 fun y H2 => rd v y H2 fun z H3 => ∃ dx' fs', H3 a = some (.ins C dx' fs') ∧ fs'.length < 1000 ∧ D.nx σ (upd H3 a (.ins C dx' (putF f z fs')))

section
variable {X : Cx} {o e value : Expr} {f : Str} {pos pos' tpos : Pos} {ta tv : TE}
theorem pe_fld (he : PE X e ta) (hb : attributeBase e f X.env (eval e X.env) = eval e X.env) : PE X (.Attribute e f pos) (tFld X.K ta f) := by
  intro pins s σ H Q I h
  refine attr_of hb (thn (he pins s σ H _ I h) fun u s1 ⟨x, H1, I1, rx, a, C, dx, fs, v, ex, ea, c, n, l, q⟩ => ?_)
  subst ex
  obtain rfl : u = Value.ref a := rx
  exact getattr_ok I1 ea c n l fun u' s2 I2 ru => ⟨v, H1, I2, ru, q⟩
theorem ps_fld (ha : PE X o ta) (hv : PE X value tv) (hs : swapsWith value (some (.Attribute o f pos')) pos.line X.env = pure false) : PS X (.Assign [.Attribute o f pos'] value pos) (sFld X.K ta tv f) := by
  intro pins s σ H D I h
  refine plainObj_wpAny_Assign_Attribute (thn (hv pins s σ H _ I h) fun u s1 ⟨y, H1, I1, ry, q⟩ => thn (ha pins s1 σ H1 _ I1 q) fun ov s2 ⟨x, H2, I2, rx, a, C, dx, fs, ex, ea, c, n, l, q2⟩ => ?_) hs
  subst ex
  obtain rfl : ov = Value.ref a := rx
  exact setattr_ok I2 ea c n l ry fun s3 I3 => ⟨σ, _, I3, q2⟩
def rAdd : V → V → Hp → VK → Prop := fun x y H Q => ∃ i j, x = .int i ∧ y = .int j ∧ Q (.int (i + j)) H
def rSub : V → V → Hp → VK → Prop := fun x y H Q => ∃ i j, x = .int i ∧ y = .int j ∧ Q (.int (i - j)) H
end

/-! ### isinstance -/
section
variable {X : Cx} {pins : List (Addr × Obj)} {σ : St} {H : Hp} {s : Shared} {A : Around} {E : Value → Shared → Prop} {Q : Value → Shared → Prop} {c : Value} {b : Bool}
/-- the type of a value, as the fragment's deciders take it; for an instance its class -/
inductive TyOf (K : PySem.W.Frag) (H : Hp) : V → Value → Prop where
  | non : TyOf K H .non (.type "NoneType")
  | bl (x : Bool) : TyOf K H (.bl x) (.type "bool")
  | int (i : Int) : TyOf K H (.int i) (.type "int")
  | str (x : Str) : TyOf K H (.str x) (.type "str")
  | flt (x : UInt64) : TyOf K H (.flt x) (.type "float")
  | lst {a : Addr} {xs : List V} (e : H a = some (.lst xs)) : TyOf K H (.ref a) (.type "list")
  | frz {a : Addr} {o : Obj} {xs : List V} (e : H a = some (.frz o (.lst xs))) : TyOf K H (.ref a) (.type "list")
  | tup {a : Addr} {xs : List V} (e : H a = some (.tup xs)) : TyOf K H (.ref a) (.type "tuple")
  | dK {a : Addr} {kvs : List (Key × V)} (e : H a = some (.dK kvs)) : TyOf K H (.ref a) (.type "dict")
  | dT {a : Addr} {kvs : List (List Key × V)} (e : H a = some (.dT kvs)) : TyOf K H (.ref a) (.type "dict")
  | ins {a C dx : Addr} {fs : List (Str × V)} (e : H a = some (.ins C dx fs)) (cl : Cls K C) (ha : PySem.W.findIn K (.ref C) "__class__" = some (some (.builtin "object.__class__")))
      (hn : PySem.W.specialIn K (.builtin "object.__class__") "__get__" = some (some (.builtin "getset_descriptor.__get__"))) (htk : PySem.W.takesIn K (.builtin "object.__class__") = some true)
      (hm : PySem.W.mroIn K C (.type "object") = some true) : TyOf K H (.ref a) (.ref C)
end
end L2

namespace L2
open PySem PySem.Spec PyProof.Rows

/-! ### room -/
structure Room (k : Nat) (A : Around) : Prop where
  hd : A.handled = none
  dp : A.depth + 3 * k + 5 < recursionLimit
  un : A.units + 16 * k + 200 < cLine
  gd : A.guards = some []
theorem Room.mono {j k : Nat} {A : Around} (r : Room k A) (h : j ≤ k) : Room j A := ⟨r.hd, by have := r.dp; omega, by have := r.un; omega, r.gd⟩
theorem Room.deeper {k : Nat} {A : Around} (r : Room (k + 1) A) (env : Env) : Room k (A.deeper env) :=
  ⟨r.hd, by have := r.dp; show A.depth + 1 + 3 * k + 5 < _; omega, by have := r.un; show A.units + 3 + 16 * k + 200 < _; omega, r.gd⟩
theorem Room.in1 {k : Nat} {A : Around} (r : Room (k + 1) A) : Room k A.in1 :=
  ⟨r.hd, by have := r.dp; show A.depth + 3 * k + 5 < _; omega, by have := r.un; show A.units + 1 + 16 * k + 200 < _; omega, r.gd⟩
theorem make_depth {A : Around} {C : Addr} {us : List Value} {kw : List (Str × Value)} : (A.under (.builtin "type.__call__" ⟨.ref C :: us, kw⟩)).depth = A.depth + 1 := by
  first | rfl | simp [Around.under, Code.weight, Code.isCreation, Code.isGuard, Code.isCaller, Code.frames, Code.isFrame, guardIds]
theorem make_units {A : Around} {C : Addr} {us : List Value} {kw : List (Str × Value)} : (A.under (.builtin "type.__call__" ⟨.ref C :: us, kw⟩)).units = A.units + 1 := by
  first | rfl | simp [Around.under, Code.cUnits, Code.frames, Code.isFrame]
theorem make_guards {A : Around} {C : Addr} {us : List Value} {kw : List (Str × Value)} : (A.under (.builtin "type.__call__" ⟨.ref C :: us, kw⟩)).guards = A.guards := by
  obtain ⟨hd, d, fr, gs, u⟩ := A
  cases gs <;> first | rfl | simp [Around.under, Code.guards, Code.isGuard, pushGuards, guardIds]
theorem Room.make {k : Nat} {A : Around} (r : Room (k + 1) A) (C : Addr) (us : List Value) (kw : List (Str × Value)) : Room k (A.under (.builtin "type.__call__" ⟨.ref C :: us, kw⟩)) :=
  ⟨r.hd, by have := r.dp; rw [make_depth]; omega, by have := r.un; rw [make_units]; omega, by rw [make_guards]; exact r.gd⟩
theorem Room.depth {k : Nat} {A : Around} (r : Room k A) : A.depth < recursionLimit := by have := r.dp; omega
theorem Room.units {k : Nat} {A : Around} (r : Room k A) : A.units + 64 < cLine := by have := r.un; omega
/-! ### argument lists and displays -/
def tNil : TA := fun _ H Q => Q [] H
def tCons (ta : TE) (tr : TA) : TA := fun σ H Q => ta σ H fun x H1 => tr σ H1 fun xs H2 => Q (x :: xs) H2
section
variable {X : Cx} {e : Expr} {es : List Expr} {te : TE} {t : TA} {pos : Pos}
theorem pa_nil : PA X [] tNil := fun _ _ _ _ H Q I h => Calls.spliced_nil ⟨[], H, I, .nil, h⟩
theorem pa_cons (ha : PE X e te) (hr : PA X es t) (hs : starEach (e :: es) X.env = (false, eval e X.env) :: starEach es X.env := by rfl) : PA X (e :: es) (tCons te t) := by
  intro pos pins s σ H Q I h
  rw [hs]
  show wpAny _ _ (spliced ((false, eval e X.env) :: backTo pos (starEach es X.env))) _ _ s
  refine Calls.spliced_cons (thn (ha pins s σ H _ I h) fun u s1 ⟨x, H1, I1, r1, q1⟩ => ?_)
  exact thn (hr pos pins s1 σ H1 _ I1 q1) fun us s2 ⟨xs, H2, I2, r2, q2⟩ => ⟨x :: xs, H2, I2, .cons r1 r2, q2⟩

/-- a tuple, a list of written items -/
def tTup (t : TA) : TE := fun σ H Q => t σ H fun xs H1 => xs.length ≤ sizeLine ∧ ∀ p, H1 p = none → Q (.ref p) (upd H1 p (.tup xs))
def tLst (t : TA) : TE := fun σ H Q => t σ H fun xs H1 => xs.length ≤ sizeLine ∧ ∀ p, H1 p = none → Q (.ref p) (upd H1 p (.lst xs))
theorem pe_tup {x1} (h : PA X es t) : PE X (.Tuple es x1 pos) (tTup t) := by
  intro pins s σ H Q I hq
  refine wpAny_Tuple_spliced (thn (h pos pins s σ H _ I hq) fun us s1 ⟨xs, H1, I1, r, z, q⟩ => ⟨by rw [← r.length]; exact z, ?_⟩)
  have hf : H1 s1.heap.objs.size = none := I1.hok.fresh (Nat.le_refl _)
  refine ⟨.ref s1.heap.objs.size, upd H1 s1.heap.objs.size (.tup xs), I1.laid (t' := s1.toks) (fun b u e => Heap.get?_push_of_some _ e) (Nat.le_refl _) ?_, rfl, q _ hf⟩
  exact ⟨z, us, r, ⟨_, Heap.get?_push_size _ rfl, rfl, _, rfl, rfl⟩⟩
theorem pe_lst (h : PA X es t) : PE X (.List es pos) (tLst t) := by
  intro pins s σ H Q I hq
  refine wpAny_List_spliced (thn (h pos pins s σ H _ I hq) fun us s1 ⟨xs, H1, I1, r, z, q⟩ => ⟨by rw [← r.length]; exact z, ?_⟩)
  have hf : H1 s1.heap.objs.size = none := I1.hok.fresh (Nat.le_refl _)
  refine ⟨.ref s1.heap.objs.size, upd H1 s1.heap.objs.size (.lst xs), I1.laid (t' := s1.toks) (fun b u e => Heap.get?_push_of_some _ e) (Nat.le_refl _) ?_, rfl, q _ hf⟩
  exact ⟨z, us, 0, r, Heap.get?_push_size _ rfl⟩
end

/-! ### what a def promises -/
/-- a def's promise: the bound arguments in the parameters' order, the heap, the wanted end, the wanted exception -/
abbrev Sp := List V → Hp → VK → XK → Prop
/-- how an exception lies behind a call (file 08 gives it): the callers' frames, abstract heap and state ahead of the call, the wish, the exception, the state -/
abbrev CXT := List Env → Hp → Shared → XK → Value → Shared → Prop

/-- the state at a call -/
structure Env0 (P : Program) (w : World) (K : PySem.W.Frag) (mg : Str → Option Value) (base : Heap) (A : Around) (outer : List Env) (s : Shared) (H : Hp) : Prop where
  frames : A.frames = some outer
  mod : Mod K mg base
  bs : ∀ b o, base.get? b = some o → s.heap.get? b = some o ∧ H b = none
  bsz : base.objs.size ≤ s.heap.objs.size
  funs : s.heap.FunFrames base outer
  frf : ∀ b ∈ frs outer, H b = none
  hok : HOk P w H s.heap
  bare : AllBare s.gens
/-- a call's end -/
def CE (outer : List Env) (P : Program) (w : World) (H : Hp) (s : Shared) (Q : VK) (u : Value) (s' : Shared) : Prop :=
  ∃ v H', s'.os = s.os ∧ AllBare s'.gens ∧ Un (frs outer) [] H H' s.heap s'.heap ∧ HOk P w H' s'.heap ∧ RelV v u ∧ Q v H'
def CR (CX : CXT) (outer : List Env) (P : Program) (w : World) (H : Hp) (s : Shared) (Q : VK) (E : XK) (r : Result) (s' : Shared) : Prop :=
  match r with
  | .ok (.ret u) => CE outer P w H s Q u s'
  | .ok _ => False
  | .error e => CX outer H s E e s'
structure FnOk (P : Program) (w : World) (K : PySem.W.Frag) (mg : Str → Option Value) (base : Heap) (CX : CXT) (k : Nat) (f : Addr) (fd : FuncData) (ps : List Str) (sp : Sp) : Prop where
  len : ∀ vs H Q E, sp vs H Q E → vs.length = ps.length
  run : ∀ (A : Around) (outer : List Env) (s : Shared) (H : Hp) (args : Args) (us : List Value) (vs : List V) (Q : VK) (E : XK), Room k A → Env0 P w K mg base A outer s H → BindsTo s fd args (ps.zip us) → Vals vs us → sp vs H Q E →
    codeAny (model P w) A (.call (.ref f) args) (CR CX outer P w H s Q E) s
theorem FnOk.mono {P : Program} {w : World} {K : PySem.W.Frag} {mg : Str → Option Value} {base : Heap} {CX : CXT} {j k : Nat} {f : Addr} {fd : FuncData} {ps : List Str} {sp : Sp} (F : FnOk P w K mg base CX j f fd ps sp) (h : j ≤ k) :
    FnOk P w K mg base CX k f fd ps sp := ⟨F.len, fun A outer s H args us vs Q E hr => F.run A outer s H args us vs Q E (hr.mono h)⟩
/-- a weaker promise -/
theorem FnOk.imp {P : Program} {w : World} {K : PySem.W.Frag} {mg : Str → Option Value} {base : Heap} {CX : CXT} {k : Nat} {f : Addr} {fd : FuncData} {ps : List Str} {sp sp' : Sp} (F : FnOk P w K mg base CX k f fd ps sp)
    (h : ∀ vs H Q E, sp' vs H Q E → sp vs H Q E) : FnOk P w K mg base CX k f fd ps sp' :=
  ⟨fun vs H Q E q => F.len vs H Q E (h _ _ _ _ q), fun A outer s H args us vs Q E hr he hb hv hs => F.run A outer s H args us vs Q E hr he hb hv (h _ _ _ _ hs)⟩

theorem Env0.make {P : Program} {w : World} {K : PySem.W.Frag} {mg : Str → Option Value} {base : Heap} {A : Around} {outer : List Env} {s : Shared} {H : Hp} (e : Env0 P w K mg base A outer s H) (C : Addr) (us : List Value) (kw : List (Str × Value)) :
    Env0 P w K mg base (A.under (.builtin "type.__call__" ⟨.ref C :: us, kw⟩)) outer s H := ⟨by first | exact e.frames | (simpa [Around.under, Code.envs, Code.isFrame, pushEnvs] using e.frames), e.mod, e.bs, e.bsz, e.funs, e.frf, e.hok, e.bare⟩
theorem Env0.in1 {P : Program} {w : World} {K : PySem.W.Frag} {mg : Str → Option Value} {base : Heap} {A : Around} {outer : List Env} {s : Shared} {H : Hp} (e : Env0 P w K mg base A outer s H) :
    Env0 P w K mg base A.in1 outer s H := ⟨e.frames, e.mod, e.bs, e.bsz, e.funs, e.frf, e.hok, e.bare⟩

section
variable {X : Cx} {pins : List (Addr × Obj)} {σ : St} {H : Hp} {s s' : Shared}
/-- from a body: what a callee wants -/
theorem Inv.env0 (I : Inv X pins σ H s) : Env0 X.prog X.w X.K X.mg X.base X.A X.stack s H :=
  ⟨I.ok.frames, I.ok.mod, I.bs, Nat.le_trans I.ok.bsz I.sz, I.stack, I.stkFree, I.hok, I.bare⟩
/-- behind a call -/
theorem Inv.after {Q : VK} {u : Value} (I : Inv X pins σ H s) (h : CE X.stack X.prog X.w H s Q u s') : EP X pins σ Q u s' := by
  obtain ⟨v, H', os, bare, un, hok, r, q⟩ := h
  obtain ⟨hh, g, d, t, os'⟩ := s'
  obtain rfl : os' = s.os := os
  exact ⟨v, H', I.call (h' := hh) (g' := g) (d' := d) (t' := t) (ch := []) un hok bare (fun b z => absurd z (by simp)), r, q⟩
end

/-! ### calls -/
/-- f(..): the written arguments, then the defaults dvs; E: what is wanted of an exception -/
def tCall (sp : Sp) (dvs : List V) (E : XK) (t : TA) : TE := fun σ H Q => t σ H fun vs H1 => sp (vs ++ dvs) H1 Q E
/-- o.m(..) of an instance of the class at C -/
def tMeth (C : Addr) (m : Str) (sp : Sp) (dvs : List V) (E : XK) (ta : TE) (t : TA) : TE := fun σ H Q => ta σ H fun x H1 => ∃ a dx fs, x = .ref a ∧ H1 a = some (.ins C dx fs) ∧ fs.lookup m = none ∧
  t σ H1 fun vs H2 => sp (x :: (vs ++ dvs)) H2 Q E
/-- C(..): a new instance and its dict, then __init__ -/
def tMake (C : Addr) (sp : Sp) (dvs : List V) (E : XK) (t : TA) : TE := fun σ H Q => t σ H fun vs H1 => ∀ x dx, H1 x = none → H1 dx = none → dx ≠ x →
  sp (.ref x :: (vs ++ dvs)) (upd (upd H1 dx (.own x)) x (.ins C dx [])) (fun v H2 => v = .non ∧ Q (.ref x) H2) E

/-- how the parameters are bound: us the positional arguments, kw the keywords' values by name, ds the defaults that fill up -/
def Binds (K : PySem.W.Frag) (fd : FuncData) (ps : List Str) (ds : List Value) : Prop :=
  ∀ (s : Shared) (us : List Value), K.In s.heap → (us ++ ds).length = ps.length → BindsTo s fd ⟨us, []⟩ (ps.zip (us ++ ds))
/-- every parameter is given -/
theorem Binds.all {K : PySem.W.Frag} {fd : FuncData} {ps : List Str} (h : ∀ us : List Value, us.length = ps.length → bindArgs fd ⟨us, []⟩ = pure (ps.zip us)) : Binds K fd ps [] := fun s us _ hl => by
  rw [List.append_nil] at hl ⊢
  exact .of_eq (h us hl)

/-- an exception of a callee reaches what this body wants of exceptions -/
def Passes (CX : CXT) (X : Cx) (E : XK) : Prop := ∀ (pins : List (Addr × Obj)) (σ : St) (H : Hp) (s : Shared) (e : Value) (s' : Shared), Inv X pins σ H s → CX X.stack H s E e s' → X.xe e s'

section
variable {X : Cx} {CX : CXT} {k : Nat} {f C : Addr} {fd : FuncData} {ps : List Str} {sp : Sp} {dvs : List V} {ds : List Value} {E : XK} {x m : Str} {p pos apos : Pos} {e o : Expr} {es : List Expr} {ta : TE} {t : TA}

/-- the callee runs -/
theorem run_fn {pins : List (Addr × Obj)} {σ : St} {H : Hp} {s : Shared} {Q : VK} {us : List Value} {vs : List V} (F : FnOk X.prog X.w X.K X.mg X.base CX k f fd ps sp) (hr : Room k X.A) (hb : Binds X.K fd ps ds) (hd : Vals dvs ds) (hx : Passes CX X E)
    (I : Inv X pins σ H s) (r : Vals vs us) (h : sp (vs ++ dvs) H Q E) : wpAny (model X.prog X.w) X.A (call (.ref f) us) (EP X pins σ Q) X.xe s := by
  have r2 : Vals (vs ++ dvs) (us ++ ds) := r.append hd
  have hl : (us ++ ds).length = ps.length := by rw [← r2.length]; exact F.len _ _ _ _ h
  refine wpAny_call (codeAny_mono (F.run X.A X.stack s H ⟨us, []⟩ (us ++ ds) (vs ++ dvs) Q E hr I.env0 (hb s us I.kIn hl) r2 h) fun r s' hq => ?_)
  cases r with
  | error e => exact hx pins σ H s e s' I hq
  | ok fl =>
    cases fl with
    | ret u => exact I.after hq
    | next => exact False.elim hq
    | brk => exact False.elim hq
    | cont => exact False.elim hq

theorem pe_call (F : FnOk X.prog X.w X.K X.mg X.base CX k f fd ps sp) (hr : Room k X.A) (hg : Gl X x) (hm : X.mg x = some (.ref f)) (hk : PySem.W.keepIn X.K (.ref f) = true) (hb : Binds X.K fd ps ds) (hd : Vals dvs ds) (hx : Passes CX X E)
    (ha : PA X (e :: es) t) (hdb : (x == ("__debug__" : Str)) = false := by decide) (he : starEach (e :: es) X.env = (false, eval e X.env) :: starEach es X.env := by rfl) (hpl : (backTo pos (starEach es X.env)).any (·.1) = false := by rfl) :
    PE X (.Call (.Name x p) (e :: es) [] pos) (tCall sp dvs E t) := by
  intro pins s σ H Q I h
  refine wpAny_Call_Name_kw (ld_glob I hg hm ?_ hdb)
  refine PySem.W.callWith_K (h₀ := X.base) I.ok.mod.kin hk (thn (ha pos pins s σ H _ I h) fun us s1 ⟨vs, H1, I1, r, q⟩ => ⟨I1.kIn, ?_⟩) he hpl
  exact run_fn F hr hb hd hx I1 r q
/-- o.m(e, ..) -/
theorem pe_meth {pl : Sem Bool} (he : PE X o ta) (c : Cls X.K C) (hm : Meth X.K C m f) (F : FnOk X.prog X.w X.K X.mg X.base CX k f fd ps sp) (hr : Room k X.A) (hb : Binds X.K fd ps ds) (hd : Vals dvs ds) (hx : Passes CX X E) (ha : PA X (e :: es) t)
    (hst : starEach (e :: es) X.env = (false, eval e X.env) :: starEach es X.env := by rfl) (hpl : (backTo pos (starEach es X.env)).any (·.1) = false := by rfl)
    (ht : eval (.Call (.Attribute o m apos) (e :: es) [] pos) X.env = (do
      let ov ← eval o X.env
      standAt apos.atName
      let (f, first) ← holding [ov] (getMethod ov m pl)
      callWith pos f first (backTo pos (starEach (e :: es) X.env)) (backToKw pos (keywordEach [] X.env))) := by rfl) :
    PE X (.Call (.Attribute o m apos) (e :: es) [] pos) (tMeth C m sp dvs E ta t) := by
  intro pins s σ H Q I h
  refine PySem.W.methodCall_KW (pl := pl) (thn (he pins s σ H _ I h) fun u s1 ⟨x, H1, I1, rx, a, dx, fs, ex, ea, l, q⟩ => ?_) ht
  subst ex
  obtain rfl : u = Value.ref a := rx
  refine getmeth_ok I1 ea c hm l ?_
  refine PySem.W.callWith_K (first := [.ref a]) (h₀ := X.base) I.ok.mod.kin hm.kp (thn (ha pos pins s1 σ H1 _ I1 q) fun us s2 ⟨vs, H2, I2, r, q2⟩ => ⟨I2.kIn, ?_⟩) hst hpl
  exact run_fn (us := .ref a :: us) (vs := .ref a :: vs) F hr hb hd hx I2 (.cons rfl r) q2
/-- o.m() -/
theorem pe_meth0 {pl : Sem Bool} (he : PE X o ta) (c : Cls X.K C) (hm : Meth X.K C m f) (F : FnOk X.prog X.w X.K X.mg X.base CX k f fd ps sp) (hr : Room k X.A) (hb : Binds X.K fd ps ds) (hd : Vals dvs ds) (hx : Passes CX X E)
    (ht : eval (.Call (.Attribute o m apos) [] [] pos) X.env = (do
      let ov ← eval o X.env
      standAt apos.atName
      let (f, first) ← holding [ov] (getMethod ov m pl)
      callWith pos f first (backTo pos (starEach [] X.env)) (backToKw pos (keywordEach [] X.env))) := by rfl) :
    PE X (.Call (.Attribute o m apos) [] [] pos) (tMeth C m sp dvs E ta tNil) := by
  intro pins s σ H Q I h
  refine PySem.W.methodCall_KW (pl := pl) (thn (he pins s σ H _ I h) fun u s1 ⟨x, H1, I1, rx, a, dx, fs, ex, ea, l, q⟩ => ?_) ht
  subst ex
  obtain rfl : u = Value.ref a := rx
  refine getmeth_ok I1 ea c hm l ?_
  exact PySem.W.callWith_K0 (first := [.ref a]) I1.kIn hm.kp (run_fn (us := [.ref a]) (vs := [.ref a]) F hr hb hd hx I1 (.cons rfl .nil) q)

/-- what a class must have to be made -/
structure Mk (K : PySem.W.Frag) (C f : Addr) : Prop where
  makes : PySem.W.makesIn K C = true
  init : PySem.W.findIn K (.ref C) "__init__" = some (some (.ref f))
  fn : PySem.W.isFn K (.ref f) = true
  kp : PySem.W.keepIn K (.ref C) = true

theorem run_make {pins : List (Addr × Obj)} {σ : St} {H : Hp} {s : Shared} {Q : VK} {us : List Value} {vs : List V} (M : Mk X.K C f) (F : FnOk X.prog X.w X.K X.mg X.base CX k f fd ps sp) (hr : Room (k + 1) X.A) (hb : Binds X.K fd ps ds) (hd : Vals dvs ds)
    (hx : Passes CX X E) (I : Inv X pins σ H s) (r : Vals vs us)
    (h : ∀ x dx, H x = none → H dx = none → dx ≠ x → sp (.ref x :: (vs ++ dvs)) (upd (upd H dx (.own x)) x (.ins C dx [])) (fun v H2 => v = .non ∧ Q (.ref x) H2) E) :
    wpAny (model X.prog X.w) X.A (call (.ref C) us) (EP X pins σ Q) X.xe s := by
  have hq := h (s.heap.objs.size + 1) s.heap.objs.size (I.hok.fresh (Nat.le_succ _)) (I.hok.fresh (Nat.le_refl _)) (Nat.ne_of_lt (Nat.lt_succ_self _))
  have I2 := Inv.made (C := C) I
  have r2 : Vals (V.ref (s.heap.objs.size + 1) :: (vs ++ dvs)) (Value.ref (s.heap.objs.size + 1) :: (us ++ ds)) := .cons rfl (r.append hd)
  have hl : (Value.ref (s.heap.objs.size + 1) :: us ++ ds).length = ps.length := by
    have e := r2.length
    rw [F.len _ _ _ _ hq] at e
    exact e.symm
  refine wpAny_call (make_map (f := f) I.kIn M.makes M.init (beq_iff_eq.mp M.fn) (codeAny_mono (F.run _ X.stack _ _ ⟨Value.ref (s.heap.objs.size + 1) :: us, []⟩ (Value.ref (s.heap.objs.size + 1) :: (us ++ ds)) _ _ E (hr.make C us [])
    (I2.env0.make C us []) (hb _ (Value.ref (s.heap.objs.size + 1) :: us) I2.kIn hl) r2 hq) fun r s' hq' => ?_))
  cases r with
  | error e => exact hx pins σ _ _ e s' I2 hq'
  | ok fl =>
    cases fl with
    | ret u =>
      obtain ⟨v, H', I3, rv, ev, q3⟩ := I2.after hq'
      subst ev
      exact ⟨rv, ⟨V.ref (s.heap.objs.size + 1), H', I3, rfl, q3⟩⟩
    | next => exact False.elim hq'
    | brk => exact False.elim hq'
    | cont => exact False.elim hq'
theorem pe_make (M : Mk X.K C f) (F : FnOk X.prog X.w X.K X.mg X.base CX k f fd ps sp) (hr : Room (k + 1) X.A) (hg : Gl X x) (hm : X.mg x = some (.ref C)) (hb : Binds X.K fd ps ds) (hd : Vals dvs ds) (hx : Passes CX X E)
    (ha : PA X (e :: es) t) (hdb : (x == ("__debug__" : Str)) = false := by decide) (he : starEach (e :: es) X.env = (false, eval e X.env) :: starEach es X.env := by rfl) (hpl : (backTo pos (starEach es X.env)).any (·.1) = false := by rfl) :
    PE X (.Call (.Name x p) (e :: es) [] pos) (tMake C sp dvs E t) := by
  intro pins s σ H Q I h
  refine wpAny_Call_Name_kw (ld_glob I hg hm ?_ hdb)
  refine PySem.W.callWith_K (h₀ := X.base) I.ok.mod.kin M.kp (thn (ha pos pins s σ H _ I h) fun us s1 ⟨vs, H1, I1, r, q⟩ => ⟨I1.kIn, ?_⟩) he hpl
  exact run_make M F hr hb hd hx I1 r q
end

/-! ### keywords -/
/-- the values of the keywords, from the left -/
def PK (X : Cx) (kws : List Keyword) (t : TA) : Prop :=
  ∀ (pos : Pos) (pins : List (Addr × Obj)) (s : Shared) (σ : St) (H : Hp) (Q : List V → Hp → Prop), Inv X pins σ H s → t σ H Q → wpAny (model X.prog X.w) X.A (evalAll ((backToKw pos (keywordEach kws X.env)).map (·.2))) (AP X pins σ Q) X.xe s
section
variable {X : Cx} {CX : CXT} {k : Nat} {f C : Addr} {fd : FuncData} {ps ks : List Str} {sp : Sp} {E : XK} {x m : Str} {p pos apos kpos : Pos} {e o : Expr} {es : List Expr} {kws : List Keyword} {te ta : TE} {t tk : TA} {nm : Option Str}
/-- how a call with keywords binds: g puts the positional values us and the keywords' values ws (names ks) in the parameters' order, defaults among them -/
structure KBinds (K : PySem.W.Frag) (fd : FuncData) (ps ks : List Str) (g : List Value → List Value → List Value) (gV : List V → List V → List V) : Prop where
  to : ∀ (s : Shared) (us ws : List Value), K.In s.heap → (g us ws).length = ps.length → BindsTo s fd ⟨us, ks.zip ws⟩ (ps.zip (g us ws))
  rel : ∀ {vs : List V} {us : List Value} {zs : List V} {ws : List Value}, Vals vs us → Vals zs ws → Vals (gV vs zs) (g us ws)
def tCallK (sp : Sp) (gV : List V → List V → List V) (E : XK) (t tk : TA) : TE := fun σ H Q => t σ H fun vs H1 => tk σ H1 fun zs H2 => sp (gV vs zs) H2 Q E
variable {g : List Value → List Value → List Value} {gV : List V → List V → List V}
end

/-! ### a def's body keeps its promise -/
/-- names: the parameters first -/
structure FnScope (N P : List Str) (sc : Scope) : Prop where
  kind : sc.kind = .function
  co : sc.isCoroutine = false
  gen : sc.isGenerator = false
  nd : N.Nodup
  pre : N.take P.length = P
  par : ∀ x ∈ P, sc.names.lookup x = some .local ∨ sc.names.lookup x = some .cell
  nofree : ∀ y ∈ sc.names, y.2 ≠ .free

theorem bindL_out {kindOf : Str → Option NameKind} {x : Str} : ∀ {binds : List (Str × Value)} {m : Str → Option Value}, (∀ v, (x, v) ∉ binds) → bindL kindOf binds m x = m x
  | [], _, _ => rfl
  | (n, v) :: r, m, h => by
    unfold bindL
    rw [bindL_out fun w hw => h w (List.mem_cons_of_mem _ hw)]
    split
    · have : x ≠ n := by rintro rfl; exact h v List.mem_cons_self
      simp [this]
    · rfl
theorem bindC_out {kindOf : Str → Option NameKind} {x : Str} : ∀ {binds : List (Str × Value)} {m : Str → Option Value}, (∀ v, (x, v) ∉ binds) → bindC kindOf binds m x = m x
  | [], _, _ => rfl
  | (n, v) :: r, m, h => by
    unfold bindC
    rw [bindC_out fun w hw => h w (List.mem_cons_of_mem _ hw)]
    split
    · rfl
    · have : x ≠ n := by rintro rfl; exact h v List.mem_cons_self
      simp [this]
theorem bindL_get {kindOf : Str → Option NameKind} {x : Str} {v : Value} : ∀ {P : List Str} {vs : List Value} {i : Nat} {m : Str → Option Value}, P.Nodup → P[i]? = some x → vs[i]? = some v → kindOf x = some .local →
    bindL kindOf (P.zip vs) m x = some v
  | [], _, _, _, _, h, _, _ => by simp at h
  | _ :: _, [], _, _, _, _, h, _ => by simp at h
  | p :: P, w :: vs, 0, m, nd, h1, h2, hk => by
    simp at h1 h2; subst h1; subst h2
    show bindL kindOf ((p, w) :: P.zip vs) m p = _
    unfold bindL
    rw [bindL_out fun v hv => (List.nodup_cons.mp nd).1 (List.of_mem_zip hv).1, if_pos hk]
    simp
  | p :: P, w :: vs, i + 1, m, nd, h1, h2, hk => by
    show bindL kindOf ((p, w) :: P.zip vs) m x = _
    unfold bindL
    exact bindL_get (i := i) (List.nodup_cons.mp nd).2 (by simpa using h1) (by simpa using h2) hk
theorem bindC_get {kindOf : Str → Option NameKind} {x : Str} {v : Value} : ∀ {P : List Str} {vs : List Value} {i : Nat} {m : Str → Option Value}, P.Nodup → P[i]? = some x → vs[i]? = some v → kindOf x ≠ some .local →
    bindC kindOf (P.zip vs) m x = some v
  | [], _, _, _, _, h, _, _ => by simp at h
  | _ :: _, [], _, _, _, _, h, _ => by simp at h
  | p :: P, w :: vs, 0, m, nd, h1, h2, hk => by
    simp at h1 h2; subst h1; subst h2
    show bindC kindOf ((p, w) :: P.zip vs) m p = _
    unfold bindC
    rw [bindC_out fun v hv => (List.nodup_cons.mp nd).1 (List.of_mem_zip hv).1, if_neg hk]
    simp
  | p :: P, w :: vs, i + 1, m, nd, h1, h2, hk => by
    show bindC kindOf ((p, w) :: P.zip vs) m x = _
    unfold bindC
    exact bindC_get (i := i) (List.nodup_cons.mp nd).2 (by simpa using h1) (by simpa using h2) hk

/-- the names' values at the entry -/
def start (N : List Str) (vs : List V) : St := vs.map some ++ List.replicate (N.length - vs.length) none

/-- the context of a def's body, at its entry; an exception leaves the frame, then lies as CX says -/
def cxOf (CX : CXT) (P : Program) (w : World) (K : PySem.W.Frag) (mg : Str → Option Value) (base : Heap) (N : List Str) (qual : Str) (scope : Scope) (f : Addr) (cd : Value) (A : Around) (outer : List Env) (s : Shared) (H : Hp) (E : XK) : Cx where
  prog := P
  w := w
  K := K
  mg := mg
  base := base
  A := A.deeper (envOfC qual scope s.heap.objs.size f cd)
  N := N
  s_0 := s
  H_0 := H
  env := envOfC qual scope s.heap.objs.size f cd
  outer := outer
  stack := envOfC qual scope s.heap.objs.size f cd :: outer
  ex := []
  calm := true
  fn := fun _ => true
  pn := []
  xe := fun e s' => wpAny (model P w) (A.deeper (envOfC qual scope s.heap.objs.size f cd)) (leaving (envOfC qual scope s.heap.objs.size f cd) e) (fun _ s'' => CX outer H s E e s'') (fun e' s'' => CX outer H s E e' s'') s'

theorem cell_has {sc : Scope} {n : Nat} {x : Str} (h : sc.names.lookup x = some .cell) : ∃ c, (cellsFrom n sc.names []).lookup x = some c := by
  have q := PySem.W.cellsFrom_some sc.names n [] (.inl h)
  exact Option.isSome_iff_exists.mp q

theorem inv_start {CX : CXT} {P : Program} {w : World} {K : PySem.W.Frag} {mg : Str → Option Value} {base : Heap} {N ps : List Str} {qual : Str} {scope : Scope} {f : Addr} {cd : Value} {A : Around} {outer : List Env} {s s1 : Shared} {H : Hp} {E : XK} {us : List Value} {vs : List V}
    (S : FnScope N ps scope) (hd : A.handled = none) (e0 : Env0 P w K mg base A outer s H) (hl : vs.length = ps.length) (r : Vals vs us)
    (x : InCallC s s.heap.objs.size (bindL (envOfC qual scope s.heap.objs.size f cd).kindOf (ps.zip us) fun _ => none) (cellsFrom (s.heap.objs.size + 1) scope.names []) (bindC (envOfC qual scope s.heap.objs.size f cd).kindOf (ps.zip us) fun _ => none) s1) :
    Inv (cxOf CX P w K mg base N qual scope f cd A outer s H E) [] (start N vs) H s1 := by
  have hpl : ps.length ≤ N.length := by have := congrArg List.length S.pre; rw [List.length_take] at this; omega
  obtain ⟨h1, tk, rfl, hk⟩ := x.done
  have noA : ∀ b : Addr, b ∉ (cxOf CX P w K mg base N qual scope f cd A outer s H E).ex := fun b z => absurd (show b ∈ ([] : List Addr) from z) (by simp)
  refine ⟨⟨e0.mod, S.kind, rfl, rfl, Nat.le_refl _, fun y z c h1 h2 => ?_, fun y hy => ?_, fun y c _ h => ?_, fun _ => hd, Around.frames_deeper e0.frames, .inr ⟨rfl, rfl⟩, fun b z => absurd z (noA b), e0.bs, e0.bsz, fun b _ _ => noA b, fun b z => absurd z (noA b), e0.funs, e0.frf⟩,
    rfl, e0.bare, Un.kept hk, ⟨_, x.toInCall.ns, fun i y v h1 h2 h3 => ?_⟩, fun y c h => ⟨_, x.cell y c h⟩, e0.hok.fresh (Nat.le_refl _), fun y c h => ?_, fun p hp => absurd (show p ∈ ([] : List (Addr × Obj)) from hp) (by simp), e0.hok.kept hk, ?_⟩
  · exact name_of_addr x.apart (PySem.mem_of_lookup h1) (PySem.mem_of_lookup h2)
  · have hy : scope.names.lookup y = some .cell ∨ scope.names.lookup y = some .free := hy
    rcases hy with hy | hy
    · exact cell_has hy
    · exact absurd rfl (S.nofree _ (PySem.mem_of_lookup hy))
  · exact Nat.le_of_lt (x.above y c (PySem.mem_of_lookup h))
  · have hi : i < vs.length := by
      unfold start at h2
      by_cases hi : i < vs.length
      · exact hi
      · rw [List.getElem?_append_right (by simpa using hi)] at h2
        rw [List.getElem?_replicate] at h2
        split at h2 <;> cases h2
    have ha : vs[i]? = some v := by
      unfold start at h2
      rw [List.getElem?_append_left (by simpa using hi), List.getElem?_map] at h2
      cases e : vs[i]? with
      | none => rw [e] at h2; cases h2
      | some a => rw [e] at h2; cases h2; rfl
    obtain ⟨u, hu, rv⟩ := r.get ha
    have hp : ps[i]? = some y := by
      rw [← S.pre, List.getElem?_take_of_lt (by omega)]; exact h1
    have ndP : ps.Nodup := by rw [← S.pre]; exact S.nd.sublist (List.take_sublist _ _)
    refine ⟨u, rv, ?_⟩
    rcases S.par y (List.mem_of_getElem? hp) with k | k
    · exact .inl ⟨k, bindL_get ndP hp hu k⟩
    · obtain ⟨c, e⟩ := cell_has (n := s.heap.objs.size + 1) k
      refine .inr ⟨.inl k, c, e, ?_⟩
      have q := x.cell y c e
      rw [bindC_get ndP hp hu (by show scope.names.lookup y ≠ _; rw [k]; decide)] at q
      exact q
  · exact e0.hok.fresh (Nat.le_of_lt (x.above y c (PySem.mem_of_lookup h)))
  · unfold start
    show _ = N.length
    rw [List.length_append, List.length_map, List.length_replicate]
    omega

/-- THE RULE: a def (or a method) of the text, by its body. The body's reading t is chosen for each entry; it is run at the parameters' values -/
theorem fn_of {CX : CXT} {P : Program} {w : World} {K : PySem.W.Frag} {mg : Str → Option Value} {base : Heap} {k : Nat} {f : Addr} {name qual : Str} {params : Arguments} {body : List Stmt} {scope : Scope} {dV kV doc pm cdv ct oc : Value} {an od : Option Addr}
    {osl : Array (Option Value)} {N ps : List Str} {sp : Sp} (lk : K.lookup f = some ⟨oc, od, .func (PySem.W.fnOf name qual params body scope dV kV doc pm an cdv ct), osl⟩) (hcd : PySem.W.codeIn K cdv qual = true) (S : FnScope N ps scope)
    (len : ∀ vs H Q E, sp vs H Q E → vs.length = ps.length)
    (hbody : ∀ (A : Around) (outer : List Env) (s : Shared) (H : Hp) (vs : List V) (Q : VK) (E : XK), Room k (A.deeper (envOfC qual scope s.heap.objs.size f cdv)) → sp vs H Q E →
      ∃ t, PSs (cxOf CX P w K mg base N qual scope f cdv A outer s H E) body t ∧ t { nx := fun _ H' => Q .non H', rt := Q } (start N vs) H) :
    FnOk P w K mg base CX (k + 1) f (PySem.W.fnOf name qual params body scope dV kV doc pm an cdv ct) ps sp := by
  refine ⟨len, fun A outer s H args us vs Q E hr e0 hb r hsp => ?_⟩
  have hl := len _ _ _ _ hsp
  have KX : K.In s.heap := e0.mod.kin.keeps fun b o e => (e0.bs b o e).1
  have lim : s.heap.NoLimit := e0.mod.nolimit.keeps fun b o e => (e0.bs b o e).1
  have hkind : ∀ y ∈ ps.zip us, scope.names.lookup y.1 = some .local ∨ (scope.names.lookup y.1 = some .cell ∧ ((cellsFrom (s.heap.objs.size + 1) scope.names []).lookup y.1).isSome = true) := fun ⟨n, v⟩ hy => by
    rcases S.par n (List.of_mem_zip hy).1 with q | q
    · exact .inl q
    · exact .inr ⟨q, PySem.W.cellsFrom_some _ _ _ (.inl q)⟩
  refine codeAny_call_function hr.depth (KX _ _ lk) rfl S.co S.gen rfl (PySem.W.codeRec_of KX hcd) (hb _ _ _ _ ?_)
  refine wpAny_newFunctionEnv_cells S.kind hkind fun env he s1 x => ?_
  subst he
  refine ⟨lim.keeps x.toInCall.keep, codeAny_func ?_⟩
  obtain ⟨t, ht, hq⟩ := hbody A outer s H vs Q E (hr.deeper _) hsp
  have I : Inv (cxOf CX P w K mg base N qual scope f cdv A outer s H E) [] (start N vs) H s1 := inv_start S hr.hd e0 hl r x
  refine wpAny_mono (ht [] s1 (start N vs) H _ I hq) (fun fl s' hs => ?_) fun e s' hs => hs
  have fin : ∀ {σ' : St} {H' : Hp} {v : V} {u : Value}, Inv (cxOf CX P w K mg base N qual scope f cdv A outer s H E) [] σ' H' s' → RelV v u → Q v H' → CE outer P w H s Q u s' :=
    fun {σ' H' v u} J rv q => ⟨v, H', J.os, J.bare, J.base, J.hok, rv, q⟩
  cases fl with
  | ret u =>
    obtain ⟨v, σ', H', J, rv, q⟩ := hs
    exact fin J rv q
  | next =>
    obtain ⟨σ', H', J, q⟩ := hs
    exact fin (v := V.non) (u := Value.none) J rfl q
  | brk =>
    obtain ⟨_, _, _, q⟩ := hs
    exact False.elim q
  | cont =>
    obtain ⟨_, _, _, q⟩ := hs
    exact False.elim q
end L2

namespace L2
open PySem PySem.Spec PyProof.Rows
section
variable {X : Cx} {x : Str} {p pos : Pos} {e : Expr} {es : List Expr} {t : TA} {id T : String} {r : List V → Hp → VK → Prop}

def tCB (r : List V → Hp → VK → Prop) (t : TA) : TE := fun σ H Q => t σ H fun vs H1 => r vs H1 Q
/-- f(e, ..), f a built-in function -/
theorem pe_callB (hc : CallR X (.builtin id) r) (hg : Gl X x) (hm : X.mg x = none) (hv : bootBuiltins x = some (.builtin id)) (ha : PA X (e :: es) t) (hn : x ≠ "__name__" := by decide) (hdb : (x == ("__debug__" : Str)) = false := by decide)
    (he : starEach (e :: es) X.env = (false, eval e X.env) :: starEach es X.env := by rfl) (hpl : (backTo pos (starEach es X.env)).any (·.1) = false := by rfl) : PE X (.Call (.Name x p) (e :: es) [] pos) (tCB r t) := by
  intro pins s σ H Q I h
  refine wpAny_Call_Name_kw (ld_blt I hg hm hv ?_ hn hdb)
  exact PyProof.Rows.callWith_builtin1 (thn (ha pos pins s σ H _ I h) fun us s1 ⟨vs, H1, I1, r1, q1⟩ => hc pins s1 σ H1 vs us Q I1 r1 q1) he hpl
/-- T(e, ..), T a built-in type -/
theorem pe_callTy (hc : CallR X (.type T) r) (hg : Gl X x) (hm : X.mg x = none) (hv : bootBuiltins x = some (.type T)) (ha : PA X (e :: es) t) (hn : x ≠ "__name__" := by decide) (hdb : (x == ("__debug__" : Str)) = false := by decide)
    (he : starEach (e :: es) X.env = (false, eval e X.env) :: starEach es X.env := by rfl) (hpl : (backTo pos (starEach es X.env)).any (·.1) = false := by rfl) : PE X (.Call (.Name x p) (e :: es) [] pos) (tCB r t) := by
  intro pins s σ H Q I h
  refine wpAny_Call_Name_kw (ld_blt I hg hm hv ?_ hn hdb)
  exact PyProof.Rows.callWith_type1 (thn (ha pos pins s σ H _ I h) fun us s1 ⟨vs, H1, I1, r1, q1⟩ => hc pins s1 σ H1 vs us Q I1 r1 q1) he hpl
/-- T() -/
theorem pe_callTy0 (hc : CallR X (.type T) r) (hg : Gl X x) (hm : X.mg x = none) (hv : bootBuiltins x = some (.type T)) (hn : x ≠ "__name__" := by decide) (hdb : (x == ("__debug__" : Str)) = false := by decide) :
    PE X (.Call (.Name x p) [] [] pos) (tCB r tNil) := by
  intro pins s σ H Q I h
  refine wpAny_Call_Name_kw (ld_blt I hg hm hv ?_ hn hdb)
  exact PyProof.Rows.callWith_type0 (hc pins s σ H [] [] Q I .nil h)
end
end L2

namespace HT
open PySem PyProof.Rows

/-- t < u of tuples of ints -/
def lexLt : List Int → List Int → Bool
  | [], [] => false
  | [], _ :: _ => true
  | _ :: _, [] => false
  | x :: xs, y :: ys => if x = y then lexLt xs ys else decide (x < y)
section
open PySem.SeqAt
open PySem.AutoSeq1 (wpAny_loadPart')
open PySem.MeetsSeq PySem.MeetsSeq2 PySem.MeetsSeq3

end

section
variable {prog : Program} {w : World} {A : Around} {E : Value → Shared → Prop} {s : Shared}

/-! ### t[a:b], not the whole -/
/-- a slice's bound as a place among n (d where it is left out) -/
def sIx (n d : Nat) : Option Int → Nat
  | none => d
  | some v => if v < 0 then (v + (n : Int)).toNat else min v.toNat n
end
end HT

namespace L2
open PySem PySem.Spec PyProof.Rows

/-! ### the parts of a slice -/
abbrev TO := St → Hp → (Option Int → Hp → Prop) → Prop
/-- a slice's part (left out, or an int) -/
def PO (X : Cx) (e : Option Expr) (t : TO) : Prop :=
  ∀ (pins : List (Addr × Obj)) (s : Shared) (σ : St) (H : Hp) (Q : Option Int → Hp → Prop), Inv X pins σ H s → t σ H Q →
    wpAny (model X.prog X.w) X.A (evalPart e X.env) (fun u s' => ∃ o H', Inv X pins σ H' s' ∧ IsPart u o ∧ Q o H') X.xe s
def tNoPart : TO := fun _ H Q => Q none H
def tPart (t : TE) : TO := fun σ H Q => t σ H fun x H1 => ∃ i, x = .int i ∧ Q (some i) H1

section
variable {X : Cx} {e : Expr} {te : TE} {lo hi : Option Expr} {tl th : TO} {pos p2 : Pos}

theorem po_some (h : PE X e te) : PO X (some e) (tPart te) := by
  intro pins s σ H Q I hw
  rw [evalPart_some]
  refine thn (h pins s σ H _ I hw) fun u s1 ⟨x, H1, I1, r1, q1⟩ => ?_
  obtain ⟨i, rfl, q⟩ := q1
  obtain ⟨t, rfl⟩ := r1
  exact ⟨some i, H1, I1, .int i t, q⟩

/-- what a slice of a value is, by values: the slice object stands at sl -/
def SlR (X : Cx) (r : V → Option Int → Option Int → Hp → VK → Prop) : Prop :=
  ∀ (pins : List (Addr × Obj)) (s : Shared) (σ : St) (H : Hp) (x : V) (v vl vu : Value) (lo hi : Option Int) (sl : Addr) (Q : VK), Inv X pins σ H s → RelV x v → s.heap.IsSliceOf sl vl vu .none → IsPart vl lo → IsPart vu hi → r x lo hi H Q →
    ∃ T id, typeLookup (.type T) "__getitem__" = pure (some (.builtin id)) ∧ s.TypeIs v T ∧ wpAny (model X.prog X.w) X.A (getItem v (.ref sl)) (EP X pins σ Q) X.xe s
def tSl (r : V → Option Int → Option Int → Hp → VK → Prop) (te : TE) (tl th : TO) : TE := fun σ H Q => te σ H fun x H1 => tl σ H1 fun l H2 => th σ H2 fun u H3 => r x l u H3 Q
/-- the items of xs[lo:hi] -/
def cutV (xs : List V) (lo hi : Option Int) : List V := (xs.drop (HT.sIx xs.length 0 lo)).take (HT.sIx xs.length xs.length hi - HT.sIx xs.length 0 lo)
/-- t[lo:hi], not the whole of it (the whole would be t itself) -/
def rSlT (K : PySem.W.Frag) : V → Option Int → Option Int → Hp → VK → Prop := fun x lo hi H Q => ∃ a xs, x = .ref a ∧ SqT K H a xs ∧
  ¬ (HT.sIx xs.length 0 lo = 0 ∧ HT.sIx xs.length xs.length hi = xs.length) ∧ ∀ p, H p = none → Q (.ref p) (upd H p (.tup (cutV xs lo hi)))
/-! ### t < u, t + u -/
def rLtT (K : PySem.W.Frag) : R2 := fun x y H Q => ∃ a b ns ms, x = .ref a ∧ y = .ref b ∧ SqT K H a (ns.map V.int) ∧ SqT K H b (ms.map V.int) ∧ Q (.bl (HT.lexLt ns ms)) H
/-- t + u, t not empty: u empty gives t itself -/
def rCatT (K : PySem.W.Frag) : R2 := fun x y H Q => ∃ a b xs ys, x = .ref a ∧ y = .ref b ∧ SqT K H a xs ∧ SqT K H b ys ∧ xs ≠ [] ∧ xs.length + ys.length ≤ sizeLine ∧
  (ys = [] → Q (.ref a) H) ∧ (ys ≠ [] → ∀ p, H p = none → Q (.ref p) (upd H p (.tup (xs ++ ys))))
end
end L2

namespace L2
open PySem PySem.Spec PyProof.Rows

/-! ### places -/
/-- the place that an index of any sign means -/
def ixN (n : Nat) (i : Int) : Option Nat := if 0 ≤ i then (if i < n then some i.toNat else none) else if -(n : Int) ≤ i then some (i + n).toNat else none
def atI {α : Type} (xs : List α) (i : Int) : Option α := (ixN xs.length i).bind fun j => xs[j]?
theorem ixN_seq {n : Nat} {i : Int} {j : Nat} (h : ixN n i = some j) : seqIndex? i n = some j ∧ j < n ∧ -(n : Int) ≤ i ∧ i < n := by
  unfold ixN at h
  by_cases h0 : 0 ≤ i
  · rw [if_pos h0] at h
    by_cases h1 : i < n
    · rw [if_pos h1] at h
      have e : i.toNat = j := Option.some.inj h
      exact ⟨by rw [seqIndex_of h0 h1, e], by omega, by omega, h1⟩
    · rw [if_neg h1] at h; cases h
  · rw [if_neg h0] at h
    by_cases h1 : -(n : Int) ≤ i
    · rw [if_pos h1] at h
      have e : (i + n).toNat = j := Option.some.inj h
      exact ⟨by rw [seqIndex_neg (by omega) h1, e], by omega, h1, by omega⟩
    · rw [if_neg h1] at h; cases h
theorem atI_get {α : Type} {xs : List α} {i : Int} {v : α} (h : atI xs i = some v) : ∃ j, seqIndex? i xs.length = some j ∧ xs[j]? = some v ∧ j < xs.length ∧ -(xs.length : Int) ≤ i ∧ i < xs.length := by
  unfold atI at h
  cases e : ixN xs.length i with
  | none => rw [e] at h; cases h
  | some j =>
    rw [e] at h
    obtain ⟨h1, h2, h3, h4⟩ := ixN_seq e
    exact ⟨j, h1, h, h2, h3, h4⟩
theorem atI_nat {α : Type} {xs : List α} {j : Nat} {v : α} (h : xs[j]? = some v) : atI xs (j : Int) = some v := by
  have hj : j < xs.length := (List.getElem?_eq_some_iff.mp h).1
  have e : ixN xs.length (j : Int) = some j := by
    unfold ixN
    rw [if_pos (by omega), if_pos (by omega)]; simp
  unfold atI; rw [e]; exact h
/-! ### what may be subscripted -/
/-- what stands as an index of a plain subscript -/
def PlainIx (b : Expr) : Prop := ∀ o i, subscripted b false o i = operate [o, i] (getItem o i)
/-- a subscript by values -/
def IxR (X : Cx) (r : R2) : Prop :=
  ∀ (value slice : Expr) (pins : List (Addr × Obj)) (s : Shared) (σ : St) (H : Hp) (x y : V) (v u : Value) (Q : VK), Inv X pins σ H s → RelV x v → RelV y u → r x y H Q →
    subscripted slice false v u = operate [v, u] (getItem v u) → wpAny (model X.prog X.w) X.A (subscriptTail value slice v u) (EP X pins σ Q) X.xe s
/-- a call of a builtin's method by values: the receiver, the arguments -/
def MtR (X : Cx) (id : String) (r : V → List V → Hp → VK → Prop) : Prop :=
  ∀ (pins : List (Addr × Obj)) (s : Shared) (σ : St) (H : Hp) (x : V) (xs : List V) (v : Value) (us : List Value) (Q : VK), Inv X pins σ H s → RelV x v → Vals xs us → r x xs H Q →
    wpAny (model X.prog X.w) X.A (call (.builtin id) (v :: us)) (EP X pins σ Q) X.xe s
section
variable {X : Cx} {a b : Expr} {ta tb : TE} {pos : Pos}
/-- a[b] -/
theorem pe_ix {r : R2} (hr : IxR X r) (ha : PE X a ta) (hb : PE X b tb) (hs : PlainIx b) : PE X (.Subscript a b pos) (tOp r ta tb) := by
  intro pins s σ H Q I h
  exact Subscript_ (binT ha hb I h fun v u s2 x y H2 I2 rx ry q => hr a b pins s2 σ H2 x y v u Q I2 rx ry q (hs _ _))

def rIxL (K : PySem.W.Frag) : R2 := fun x y H Q => ∃ p xs i v, x = .ref p ∧ y = .int i ∧ SqL K H p xs ∧ atI xs i = some v ∧ Q v H
def rIxT (K : PySem.W.Frag) : R2 := fun x y H Q => ∃ p xs i v, x = .ref p ∧ y = .int i ∧ SqT K H p xs ∧ atI xs i = some v ∧ Q v H
def rIxS : R2 := fun x y H Q => ∃ z i c, x = .str z ∧ y = .int i ∧ z.length ≤ sizeLine ∧ atI z.cps.toList i = some c ∧ Q (.str ⟨#[c]⟩) H
theorem ix_list : IxR X (rIxL X.K) := by
  intro value slice pins s σ H x y v u Q I rx ry h hs
  obtain ⟨p, xs, i, z, rfl, rfl, hq, he, q⟩ := h
  cases rx
  obtain ⟨t, rfl⟩ := ry
  obtain ⟨its, r, pl, hz⟩ := I.list hq
  obtain ⟨j, h1, h2, h3, h4, h5⟩ := atI_get he
  obtain ⟨w, ew, rw'⟩ := r.get h2
  have hl := r.length
  have hn := line63
  have fin : EP X pins σ Q w s := ⟨z, H, I, rw', q⟩
  by_cases h0 : 0 ≤ i
  · have hj : i.toNat = j := by
      rw [seqIndex_of h0 h5] at h1
      exact Option.some.inj h1
    exact item_listR pl.isList h0 (by omega) (by rw [hj]; simpa using ew) fin hs
  · have hj : (i + (its.toArray.size : Int)).toNat = j := by
      rw [seqIndex_neg (by omega) h4] at h1
      rw [List.size_toArray, ← hl]
      exact Option.some.inj h1
    exact subscriptTail_builtinR (x := w) pl.isList.typeIs slot_list_getitem.lookup
      (wpAny_getItem_list_neg (Q := fun r s' => r = w ∧ EP X pins σ Q r s') pl.isList (by omega) (by rw [List.size_toArray] <;> omega) (by omega) (by rw [hj]; simpa using ew) ⟨rfl, fin⟩) hs
theorem ix_tup : IxR X (rIxT X.K) := by
  intro value slice pins s σ H x y v u Q I rx ry h hs
  obtain ⟨p, xs, i, z, rfl, rfl, hq, he, q⟩ := h
  cases rx
  obtain ⟨t, rfl⟩ := ry
  obtain ⟨its, r, pl, hz⟩ := I.tuple hq
  obtain ⟨j, h1, h2, h3, h4, h5⟩ := atI_get he
  obtain ⟨w, ew, rw'⟩ := r.get h2
  have hl := r.length
  have hn := line63
  have fin : EP X pins σ Q w s := ⟨z, H, I, rw', q⟩
  exact subscriptTail_builtinR (x := w) pl.typeIs slot_tuple_getitem.lookup
    (getItem_tuple (j := j) (Q := fun r s' => r = w ∧ EP X pins σ Q r s') pl (by omega) (by omega) (by rw [List.size_toArray, ← hl]; exact h1) (by simpa using ew) ⟨rfl, fin⟩) hs
/-- list, tuple or str -/
def rIx (K : PySem.W.Frag) : R2 := fun x y H Q => rIxL K x y H Q ∨ rIxT K x y H Q ∨ rIxS x y H Q
/-! ### xs[i] = v, any sign -/
theorem Inv.lst {pins : List (Addr × Obj)} {σ : St} {H : Hp} {s : Shared} {p : Addr} {xs : List V} (I : Inv X pins σ H s) (h : H p = some (.lst xs)) :
    ∃ (its : List Value) (n : Nat), Vals xs its ∧ s.heap.get? p = some { cls := .type "list", data := .seq its.toArray n } ∧ xs.length ≤ sizeLine := by
  obtain ⟨z, its, n, r, e⟩ := I.hok p _ h
  exact ⟨its, n, r, e, z⟩
def rSetL : V → V → V → Hp → (Hp → Prop) → Prop := fun o i v H Q => ∃ p xs k j, o = .ref p ∧ i = .int k ∧ H p = some (.lst xs) ∧ ixN xs.length k = some j ∧ Q (upd H p (.lst (xs.set j v)))
/-! ### slices -/
/-- xs[lo:hi] of a list: a new list -/
def rSlL (K : PySem.W.Frag) : V → Option Int → Option Int → Hp → VK → Prop := fun x lo hi H Q => ∃ a xs, x = .ref a ∧ SqL K H a xs ∧ ∀ p, H p = none → Q (.ref p) (upd H p (.lst (cutV xs lo hi)))
/-! ### in, not in: flat items -/
def flatV : V → Bool
  | .non => true
  | .bl _ => true
  | .int _ => true
  | .str _ => true
  | _ => false
/-- == of flat values -/
def eqV : V → V → Bool
  | .non, .non => true
  | .bl a, .bl b => a == b
  | .bl a, .int b => (if a then 1 else 0) == b
  | .int a, .bl b => a == (if b then 1 else 0)
  | .int a, .int b => a == b
  | .str a, .str b => a == b
  | _, _ => false
theorem eqAt_V {A : Around} {s : Shared} {y x : V} {u v : Value} (ry : RelV y u) (rx : RelV x v) (fy : flatV y = true) (fx : flatV x = true) : SeqAt.EqAt A s u v (eqV y x) := by
  cases y with
  | non =>
    cases ry
    cases x with
    | non => cases rx; exact SeqAt.EqAt.same _
    | bl b => cases rx; exact SeqAt.EqAt.none_bool b
    | int b => obtain ⟨t, rfl⟩ := rx; exact SeqAt.EqAt.none_int b t
    | str b => obtain ⟨t, rfl⟩ := rx; exact SeqAt.EqAt.none_str b t
    | _ => exact absurd (show false = true from fx) Bool.false_ne_true
  | bl a =>
    cases ry
    cases x with
    | non => cases rx; exact SeqAt.EqAt.bool_none a
    | bl b => cases rx; exact SeqAt.EqAt.bool_bool a b
    | int b => obtain ⟨t, rfl⟩ := rx; exact SeqAt.EqAt.bool_int a b t
    | str b => obtain ⟨t, rfl⟩ := rx; exact SeqAt.EqAt.bool_str a b t
    | _ => exact absurd (show false = true from fx) Bool.false_ne_true
  | int a =>
    obtain ⟨t', rfl⟩ := ry
    cases x with
    | non => cases rx; exact SeqAt.EqAt.int_none a t'
    | bl b => cases rx; exact SeqAt.EqAt.int_bool a t' b
    | int b => obtain ⟨t, rfl⟩ := rx; exact SeqAt.EqAt.int_int a t' b t
    | str b => obtain ⟨t, rfl⟩ := rx; exact SeqAt.EqAt.int_str a t' b t
    | _ => exact absurd (show false = true from fx) Bool.false_ne_true
  | str a =>
    obtain ⟨t', rfl⟩ := ry
    cases x with
    | non => cases rx; exact SeqAt.EqAt.str_none a t'
    | bl b => cases rx; exact SeqAt.EqAt.str_bool a t' b
    | int b => obtain ⟨t, rfl⟩ := rx; exact SeqAt.EqAt.str_int a t' b t
    | str b => obtain ⟨t, rfl⟩ := rx; exact SeqAt.EqAt.str_str a t' b t
    | _ => exact absurd (show false = true from fx) Bool.false_ne_true
  | _ => exact absurd (show false = true from fy) Bool.false_ne_true
/-- the items' answers, read off the values (a value's own answer does not lean on its token) -/
def eqU (x : V) (u : Value) : Bool := match u with
  | .none => eqV .non x
  | .bool b => eqV (.bl b) x
  | .int i _ => eqV (.int i) x
  | .str z _ => eqV (.str z) x
  | _ => false
theorem eqU_of {x y : V} {u : Value} (r : RelV y u) (f : flatV y = true) : eqU x u = eqV y x := by
  cases y with
  | non => cases r; rfl
  | bl b => cases r; rfl
  | int i => obtain ⟨t, rfl⟩ := r; rfl
  | str z => obtain ⟨t, rfl⟩ := r; rfl
  | _ => exact absurd (show false = true from f) Bool.false_ne_true
theorem mem_eqAt {A : Around} {s : Shared} {x : V} {v : Value} (rx : RelV x v) (fx : flatV x = true) : ∀ {xs : List V} {us : List Value}, Vals xs us → xs.all flatV = true → ∀ u ∈ us, SeqAt.EqAt A s u v (eqU x u)
  | _, _, .nil, _ => fun u hu => by cases hu
  | y :: xs, u :: us, .cons r t, f => fun u' hu => by
    rw [List.all_cons, Bool.and_eq_true] at f
    rcases List.mem_cons.mp hu with rfl | hu
    · rw [eqU_of r f.1]; exact eqAt_V r rx f.1 fx
    · exact mem_eqAt rx fx t f.2 u' hu
def inV (x : V) (xs : List V) : Bool := xs.any fun y => eqV y x
/-- x in a list or tuple of flat items -/
def rIn (K : PySem.W.Frag) (neg : Bool) : R2 := fun x y H Q => ∃ p xs, y = .ref p ∧ (SqL K H p xs ∨ SqT K H p xs) ∧ flatV x = true ∧ xs.all flatV = true ∧ Q (.bl (if neg then !inV x xs else inV x xs)) H
/-! ### len, list(x), tuple(x) of any list or tuple that is read -/
theorem call_len_seq : CallR X (.builtin "len") (fun xs H Q => ∃ p ys, xs = [.ref p] ∧ (SqL X.K H p ys ∨ SqT X.K H p ys) ∧ Q (.int ys.length) H) := by
  intro pins s σ H xs us Q I r h
  obtain ⟨p, ys, rfl, hq, q⟩ := h
  obtain ⟨u, rfl, rx⟩ := vals1 r
  cases rx
  have hn := line63
  rcases hq with hq | hq
  · obtain ⟨its, r', pl, hz⟩ := I.list hq
    have hlen := r'.length
    exact Calls.call_len_list pl.isList (by simp only [List.size_toArray] <;> omega) ⟨.int ys.length, H, I.tok _, ⟨s.toks + 1, by rw [List.size_toArray, hlen]⟩, q⟩
  · obtain ⟨its, r', pl, hz⟩ := I.tuple hq
    have hlen := r'.length
    exact len_tuple pl (by simp only [List.size_toArray] <;> omega) ⟨.int ys.length, H, I.tok _, ⟨s.toks + 1, by rw [List.size_toArray, hlen]⟩, q⟩
theorem call_tuple_of : CallR X (.type "tuple") (fun xs H Q => ∃ p ys, xs = [.ref p] ∧ ((SqL X.K H p ys ∧ ∀ l, H l = none → Q (.ref l) (upd H l (.tup ys))) ∨ (SqT X.K H p ys ∧ Q (.ref p) H))) := by
  intro pins s σ H xs us Q I r h
  obtain ⟨p, ys, rfl, h⟩ := h
  obtain ⟨u, rfl, rx⟩ := vals1 r
  cases rx
  rcases h with ⟨hq, q⟩ | ⟨hq, q⟩
  · obtain ⟨its, r', pl, hz⟩ := I.list hq
    have hlen := r'.length
    refine call_tuple_list pl.isList (fun h' kp => ?_) (by simp only [List.size_toArray] <;> omega)
    have I1 : Inv X pins σ H { s with heap := h' } := I.kept (t' := s.toks) kp
    have I2 : Inv X pins σ (upd H h'.objs.size (.tup ys)) { s with heap := h'.push { cls := .type "tuple", data := .seq its.toArray } } :=
      I1.laid (t' := s.toks) (fun b o e => Heap.get?_push_of_some _ e) (Nat.le_refl _) (show ObjOk X.prog X.w _ _ _ (.tup ys) from ⟨hz, its, r', IsTup.new _ _⟩)
    exact ⟨.ref h'.objs.size, _, I2, rfl, q _ (I1.hok.fresh (Nat.le_refl _))⟩
  · obtain ⟨its, r', pl, hz⟩ := I.tuple hq
    exact call_tuple_same pl ⟨.ref p, H, I, rfl, q⟩

/-! ### the call of a builtin's method: o.m(..) -/
/-- the value is of that builtin type -/
def tyV (K : PySem.W.Frag) (T : String) (x : V) (H : Hp) : Prop := match x with
  | .str _ => T = "str"
  | .int _ => T = "int"
  | .ref p => (T = "list" ∧ ∃ xs, SqL K H p xs) ∨ (T = "tuple" ∧ ∃ o, K.lookup p = some o ∧ o.cls = .type "tuple" ∧ o.dict = none) ∨
      (T = "dict" ∧ ((∃ kvs, H p = some (.dK kvs)) ∨ ∃ kvs, H p = some (.dT kvs))) ∨ (T = "set" ∧ ∃ S n, H p = some (.set S n))
  | _ => False
theorem tyV_is {pins : List (Addr × Obj)} {σ : St} {H : Hp} {s : Shared} {T : String} {x : V} {v : Value} (I : Inv X pins σ H s) (r : RelV x v) (ty : tyV X.K T x H) :
    s.TypeIs v T ∧ ∀ a, v = .ref a → ∃ ob, s.heap.get? a = some ob ∧ ob.dict = none := by
  cases x with
  | str z =>
    obtain ⟨t, rfl⟩ := r
    cases (show T = "str" from ty)
    exact ⟨typeIs_str s z t, fun _ e => nomatch e⟩
  | int i =>
    obtain ⟨t, rfl⟩ := r
    cases (show T = "int" from ty)
    exact ⟨typeIs_int s i t, fun _ e => nomatch e⟩
  | ref p =>
    cases r
    rcases ty with ⟨rfl, xs, hq⟩ | ⟨rfl, o, hk, hc, hd⟩ | ⟨rfl, hk⟩ | ⟨rfl, S, n, hk⟩
    · obtain ⟨its, _, pl, _⟩ := I.list hq
      refine ⟨pl.isList.typeIs, fun a e => ?_⟩
      cases e
      obtain ⟨o, n, e, c, hd, _⟩ := pl
      exact ⟨o, e, hd⟩
    · refine ⟨⟨o, I.kIn p o hk, hc⟩, fun a e => ?_⟩
      cases e
      exact ⟨o, I.kIn _ o hk, hd⟩
    · have z : ∃ o, s.heap.get? p = some o ∧ o.ExactDict := by
        rcases hk with ⟨kvs, hk⟩ | ⟨kvs, hk⟩
        · obtain ⟨_, _, _, _, o, _, _, e, ex, _⟩ := I.hok p _ hk
          exact ⟨o, e, ex⟩
        · obtain ⟨_, _, _, _, o, _, _, e, ex, _⟩ := I.hok p _ hk
          exact ⟨o, e, ex⟩
      obtain ⟨o, e, ex⟩ := z
      refine ⟨⟨o, e, ex.1⟩, fun a e2 => ?_⟩
      cases e2
      exact ⟨o, e, ex.2.1⟩
    · obtain ⟨o, _, _, _, e, ex, _⟩ := I.hok p _ hk
      refine ⟨⟨o, e, ex.1⟩, fun a e2 => ?_⟩
      cases e2
      exact ⟨o, e, ex.2.1⟩
  | _ => exact False.elim ty
def tBM0 (K : PySem.W.Frag) (T : String) (r : V → List V → Hp → VK → Prop) (to : TE) : TE := fun σ H Q => to σ H fun x H1 => tyV K T x H1 ∧ r x [] H1 Q
def tBM (K : PySem.W.Frag) (T : String) (r : V → List V → Hp → VK → Prop) (to : TE) (t : TA) : TE := fun σ H Q => to σ H fun x H1 => tyV K T x H1 ∧ t σ H1 fun xs H2 => r x xs H2 Q
variable {o e : Expr} {es : List Expr} {to : TE} {t : TA} {name : Str} {apos cpos : Pos} {T id : String} {r : V → List V → Hp → VK → Prop}
theorem pe_bm0 (pa : PlainAttrs T) (slot : Slot T name id) (hty : typeOf (.builtin id) = pure (.type "method_descriptor")) (hm : MtR X id r) (ho : PE X o to)
    (hbase : attributeBase o name X.env (eval o X.env) = eval o X.env := by rfl) (hline : (apos.endLine == cpos.line) = true := by rfl) : PE X (.Call (.Attribute o name apos) [] [] cpos) (tBM0 X.K T r to) := by
  intro pins s σ H Q I h
  refine wpAny_Call_method0_late hbase hline (thn (ho pins s σ H _ I h) fun v s1 ⟨x, H1, I1, r1, ty, q1⟩ => ?_)
  obtain ⟨h1, h2⟩ := tyV_is I1 r1 ty
  exact ⟨T, id, pa, slot, hty, h1, h2, Calls.callWith_builtin rfl (PySem.evalArgs_none (hm pins s1 σ H1 x [] v [] Q I1 r1 .nil q1))⟩
theorem pe_bm (pa : PlainAttrs T) (slot : Slot T name id) (hty : typeOf (.builtin id) = pure (.type "method_descriptor")) (hm : MtR X id r) (ho : PE X o to) (ha : PA X (e :: es) t)
    (hbase : attributeBase o name X.env (eval o X.env) = eval o X.env := by rfl)
    (hfew : ((backTo cpos (starEach (e :: es) X.env)).all (fun x => !x.1) && (backToKw cpos (keywordEach [] X.env)).all (fun x => x.1.isSome)
      && decide ((e :: es).length + ([] : List Keyword).length + (if ([] : List Keyword).isEmpty then 0 else 1) < 30)) = true := by rfl)
    (hline : (apos.endLine == cpos.line) = true := by rfl) (hs : starEach (e :: es) X.env = (false, eval e X.env) :: starEach es X.env := by rfl) (hplain : (backTo cpos (starEach es X.env)).any (·.1) = false := by rfl) :
    PE X (.Call (.Attribute o name apos) (e :: es) [] cpos) (tBM X.K T r to t) := by
  intro pins s σ H Q I h
  refine wpAny_Call_method_late hbase hfew hline rfl (thn (ho pins s σ H _ I h) fun v s1 ⟨x, H1, I1, r1, ty, q1⟩ => ?_)
  obtain ⟨h1, h2⟩ := tyV_is I1 r1 ty
  refine ⟨T, id, pa, slot, hty, h1, h2, ?_⟩
  have hA := ha cpos pins s1 σ H1 _ I1 q1
  rw [hs] at hA ⊢
  refine Calls.callWith_builtin (by show (false || (backTo cpos (starEach es X.env)).any (·.1)) = false; rw [hplain] <;> rfl) (Calls.evalArgs_plain ?_)
  exact thn hA fun us s2 ⟨vs, H2, I2, r2, q2⟩ => hm pins s2 σ H2 x vs v us Q I2 r1 r2 q2
/- xs.append(e), list.index on a module's tuple .. are MtR facts of 06m -/
end
end L2

namespace L2
open PySem PySem.Spec PyProof.Rows

def MtM (X : Cx) (id : String) (r : V → List V → Hp → VK → Prop) : Prop :=
  ∀ (pins : List (Addr × Obj)) (s : Shared) (σ : St) (H : Hp) (x : V) (xs : List V) (v : Value) (us : List Value) (Q : VK), Inv X pins σ H s → RelV x v → Vals xs us → r x xs H Q →
    wpAny (model X.prog X.w) X.A (call (.builtin id) (v :: us)) (EP X pins σ Q) X.xe s

/-! ### lists of values -/
theorem Vals.one : ∀ {x : V} {us : List Value}, Vals [x] us → ∃ u, us = [u] ∧ RelV x u
  | _, _, .cons r .nil => ⟨_, rfl, r⟩
theorem Vals.zero : ∀ {us : List Value}, Vals [] us → us = []
  | _, .nil => rfl
theorem Vals.dropLast {xs : List V} {us : List Value} (h : Vals xs us) : Vals xs.dropLast us.dropLast := by
  induction h with
  | nil => exact .nil
  | cons r t ih =>
    cases t with
    | nil => exact .nil
    | cons q t' => exact .cons r ih
theorem Vals.eraseIdx : ∀ {xs : List V} {us : List Value} (i : Nat), Vals xs us → Vals (xs.eraseIdx i) (us.eraseIdx i)
  | _, _, _, .nil => .nil
  | _, _, 0, .cons _ t => t
  | _, _, i + 1, .cons r t => .cons r (Vals.eraseIdx i t)
theorem Vals.reverse {xs : List V} {us : List Value} (h : Vals xs us) : Vals xs.reverse us.reverse := by
  induction h with
  | nil => exact .nil
  | cons r t ih => rw [List.reverse_cons, List.reverse_cons]; exact Vals.append ih (.cons r .nil)
theorem erase_last {α : Type} (l : List α) : l.eraseIdx (l.length - 1) = l.dropLast := by
  induction l with
  | nil => rfl
  | cons a r ih =>
    cases r with
    | nil => rfl
    | cons b r =>
      have e : (a :: b :: r).length - 1 = ((b :: r).length - 1) + 1 := by
        have h1 : (a :: b :: r).length = r.length + 2 := rfl
        have h2 : (b :: r).length = r.length + 1 := rfl
        omega
      rw [e, List.eraseIdx_cons_succ, ih]
      all_goals rfl
section
variable {X : Cx} {pins : List (Addr × Obj)} {σ : St} {H : Hp} {s : Shared} {l b : Addr} {xs ys zs : List V}

/-! ### the two steps: a tracked list is rewritten, a new list is laid -/
theorem Inv.lset {its its' : List Value} {n : Nat} {f : Array Value → Array Value} {t' : Nat} (I : Inv X pins σ H s) (hH : H l = some (.lst xs))
    (e : s.heap.get? l = some { cls := .type "list", data := .seq its.toArray n }) (hf : f its.toArray = its'.toArray) (hv : Vals ys its') (hz : ys.length ≤ sizeLine) :
    Inv X pins σ (upd H l (.lst ys)) { s with heap := s.heap.update l (Obj.mapSeq f), toks := t' } := by
  have q := PySem.IsL.update e f
  rw [hf] at q
  refine I.write (x := l) (e := l) (by rw [hH]; exact trivial) (.inl rfl) (fun b' u hb hu => (Heap.get?_update_other s.heap (Obj.mapSeq f) (Ne.symm hb)).trans hu) ⟨_, q⟩ ?_
  exact ⟨hz, its', _, hv, q⟩
theorem Inv.lnew {its : List Value} {t' : Nat} (I : Inv X pins σ H s) (hv : Vals ys its) (hz : ys.length ≤ sizeLine) :
    Inv X pins σ (upd H s.heap.objs.size (.lst ys)) { s with heap := s.heap.push { cls := .type "list", data := .seq its.toArray }, toks := t' } :=
  I.laid (fun _ _ q => Heap.get?_push_of_some _ q) (Nat.le_refl _) ⟨hz, its, 0, hv, Heap.get?_push_size _ rfl⟩
theorem Inv.fresh (I : Inv X pins σ H s) : H s.heap.objs.size = none := I.hok.fresh (Nat.le_refl _)
theorem Inv.lstM (I : Inv X pins σ H s) (hH : H l = some (.lst xs)) : xs.length ≤ sizeLine ∧ ∃ (its : List Value) (n : Nat), Vals xs its ∧ xs.length = its.length ∧ s.heap.get? l = some { cls := .type "list", data := .seq its.toArray n } := by
  obtain ⟨z, its, n, r, e⟩ := I.hok l _ hH
  exact ⟨z, its, n, r, r.length, e⟩

end

section
variable {X : Cx}

/-! ### methods -/
def rAppend : V → List V → Hp → VK → Prop := fun x vs H Q => ∃ l xs y, x = .ref l ∧ vs = [y] ∧ H l = some (.lst xs) ∧ xs.length < sizeLine ∧ Q .non (upd H l (.lst (xs ++ [y])))
theorem mt_append : MtM X "list.append" rAppend := by
  intro pins s σ H x vs v us Q I rx rv h
  obtain ⟨l, xs, y, rfl, rfl, hH, hz, q⟩ := h
  cases rx
  obtain ⟨u, rfl, ru⟩ := rv.one
  obtain ⟨z, its, n, r, hl, e⟩ := I.lstM hH
  refine call_meets F.slot_list_append ⟨_, e, rfl⟩ F.entry_list_append (F.args_list_append_2 _ _) (PySem.list_append l its.toArray n u (by rw [List.size_toArray]; omega)) ⟨e, ?_⟩
  refine ⟨.non, _, I.lset (its' := its ++ [u]) hH e (by simp) (r.append (.cons ru .nil)) ?_, rfl, q⟩
  rw [List.length_append, List.length_singleton]
  omega

def rExtend : V → List V → Hp → VK → Prop := fun x vs H Q => ∃ l b xs zs, x = .ref l ∧ vs = [.ref b] ∧ H l = some (.lst xs) ∧ H b = some (.lst zs) ∧ xs.length + zs.length ≤ sizeLine ∧ Q .non (upd H l (.lst (xs ++ zs)))
def rPop : V → List V → Hp → VK → Prop := fun x vs H Q => ∃ l xs y, x = .ref l ∧ vs = [] ∧ H l = some (.lst xs) ∧ xs[xs.length - 1]? = some y ∧ Q y (upd H l (.lst xs.dropLast))
theorem mt_pop : MtM X "list.pop" rPop := by
  intro pins s σ H x vs v us Q I rx rv h
  obtain ⟨l, xs, y, rfl, rfl, hH, hy, q⟩ := h
  cases rx
  have hus := rv.zero
  subst hus
  obtain ⟨z, its, n, r, hl, e⟩ := I.lstM hH
  obtain ⟨u, hu, ru⟩ := r.get hy
  have hy' : its.toArray[its.toArray.size - 1]? = some u := by
    show its.toArray[its.length - 1]? = some u
    rw [← Array.getElem?_toList, ← hl]
    exact hu
  refine call_meets F.slot_list_pop ⟨_, e, rfl⟩ F.entry_list_pop (F.args_list_pop_1 _) (MeetsSeq.list_pop_last l its.toArray n u hy' (by rw [List.size_toArray]; omega)) ⟨e, ?_⟩
  refine ⟨y, _, I.lset (its' := its.dropLast) hH e ?_ r.dropLast ?_, ru, q⟩
  · show its.toArray.eraseIdxIfInBounds (its.toArray.size - 1) = its.dropLast.toArray
    rw [List.size_toArray, List.eraseIdxIfInBounds_toArray, erase_last]
  · rw [List.length_dropLast]
    omega

def rPopAt : V → List V → Hp → VK → Prop := fun x vs H Q => ∃ l xs i k y, x = .ref l ∧ vs = [.int i] ∧ H l = some (.lst xs) ∧ -(2 ^ 63) ≤ i ∧ i < 2 ^ 63 ∧ seqIndex? i xs.length = some k ∧ xs[k]? = some y ∧ Q y (upd H l (.lst (xs.eraseIdx k)))
def rReverse : V → List V → Hp → VK → Prop := fun x vs H Q => ∃ l xs, x = .ref l ∧ vs = [] ∧ H l = some (.lst xs) ∧ Q .non (upd H l (.lst xs.reverse))
def rClear : V → List V → Hp → VK → Prop := fun x vs H Q => ∃ l xs, x = .ref l ∧ vs = [] ∧ H l = some (.lst xs) ∧ Q .non (upd H l (.lst []))
/-! ### list + list, list += list, list * int -/
def rCat : R2 := fun x y H Q => ∃ l b xs zs, x = .ref l ∧ y = .ref b ∧ H l = some (.lst xs) ∧ H b = some (.lst zs) ∧ xs.length + zs.length ≤ sizeLine ∧ ∀ p, H p = none → Q (.ref p) (upd H p (.lst (xs ++ zs)))
theorem op_cat : OpR X (binaryOp .Add) rCat := by
  intro pins s σ H x y v u Q I rx ry h
  obtain ⟨l, b, xs, zs, rfl, rfl, hH, hB, hz, q⟩ := h
  cases rx
  cases ry
  obtain ⟨z, its, n, r, hl, e⟩ := I.lstM hH
  obtain ⟨z2, its2, n2, r2, hl2, e2⟩ := I.lstM hB
  refine PySem.P.add_list e e2 ?_ (by rw [List.size_toArray, List.size_toArray]; omega)
  have ea : its.toArray ++ its2.toArray = (its ++ its2).toArray := by simp
  rw [ea]
  exact ⟨.ref _, _, I.lnew (t' := s.toks) (r.append r2) (by rw [List.length_append]; omega), rfl, q _ I.fresh⟩
/-- a list times an int (a negative one is nothing) -/
def rRep : R2 := fun x y H Q => ∃ l k xs, x = .ref l ∧ y = .int k ∧ H l = some (.lst xs) ∧ -(2 ^ 63) ≤ k ∧ k < 2 ^ 63 ∧ xs.length * k.toNat ≤ sizeLine ∧
  ∀ p, H p = none → Q (.ref p) (upd H p (.lst (List.replicate k.toNat xs).flatten))
/-! ### del xs[i] -/
end

/-! ### xs[a:b] = ys -/
section
variable {prog : Program} {w : World} {A : Around} {E : Value → Shared → Prop} {s : Shared}
end

section
variable {X : Cx}
end
end L2

namespace L2
open PySem PySem.Spec PyProof.Rows

theorem Vals.strs : ∀ {xs : List Str} {us : List Value}, Vals (xs.map V.str) us → StrsAre us xs
  | [], us, h => by
    rw [List.map_nil] at h
    cases h
    exact StrsAre.nil
  | x :: xs, us, h => by
    rw [List.map_cons] at h
    cases h with
    | cons r t =>
      obtain ⟨k, rfl⟩ := r
      exact StrsAre.cons x k (Vals.strs t)
theorem Vals.ref1 {a : Addr} {us : List Value} (r : Vals [V.ref a] us) : us = [Value.ref a] := by
  cases r with
  | cons r t =>
    cases t
    cases r
    rfl
/-! ### the library's walks over a list of ints, kept objects alone -/
section
variable {prog : Program} {w : World} {A : Around} {E : Value → Shared → Prop} {s : Shared} {l : Addr} {its : List Value} {ns : List Int} {Q : Value → Shared → Prop}
end

/-! ### the calls, by values (CallR of 03t; MtR of 06l) -/
section
variable {X : Cx}
/-- sum(xs) of a list of ints -/
def rSum (K : PySem.W.Frag) : List V → Hp → VK → Prop := fun vs H Q => ∃ (a : Addr) (ns : List Int), vs = [V.ref a] ∧ SqL K H a (ns.map V.int) ∧ Q (.int ns.sum) H
/-- max(xs), min(xs) of a list of ints -/
def rMax (K : PySem.W.Frag) : List V → Hp → VK → Prop := fun vs H Q => ∃ (a : Addr) (ns : List Int), vs = [V.ref a] ∧ SqL K H a (ns.map V.int) ∧ 0 < ns.length ∧ ∀ m, m ∈ ns → (∀ y, y ∈ ns → y ≤ m) → Q (.int m) H
def rMin (K : PySem.W.Frag) : List V → Hp → VK → Prop := fun vs H Q => ∃ (a : Addr) (ns : List Int), vs = [V.ref a] ∧ SqL K H a (ns.map V.int) ∧ 0 < ns.length ∧ ∀ m, m ∈ ns → (∀ y, y ∈ ns → m ≤ y) → Q (.int m) H
/-! sorted, sort (fewer than 64 items: the library's own bound) -/
def rSorted (K : PySem.W.Frag) : List V → Hp → VK → Prop := fun vs H Q => ∃ (a : Addr) (ns : List Int), vs = [V.ref a] ∧ SqL K H a (ns.map V.int) ∧ ns.length < 64 ∧
  ∀ (ns' : List Int) (p : Addr), ns'.Perm ns → ns'.Pairwise (· ≤ ·) → H p = none → Q (.ref p) (upd H p (.lst (ns'.map V.int)))
def rSortedS (K : PySem.W.Frag) : List V → Hp → VK → Prop := fun vs H Q => ∃ (a : Addr) (xs : List Str), vs = [V.ref a] ∧ SqL K H a (xs.map V.str) ∧ xs.length < 64 ∧
  ∀ (ys : List Str) (p : Addr), ys.Perm xs → sortedS ys = true → H p = none → Q (.ref p) (upd H p (.lst (ys.map V.str)))
/-- xs.sort(), ints -/
def rSort : V → List V → Hp → VK → Prop := fun x xs H Q => ∃ (a : Addr) (ns : List Int), x = V.ref a ∧ xs = [] ∧ H a = some (.lst (ns.map V.int)) ∧ ns.length < 64 ∧
  ∀ ns' : List Int, ns'.Perm ns → ns'.Pairwise (· ≤ ·) → Q .non (upd H a (.lst (ns'.map V.int)))
end

/-! ### list.index, flat items -/
section
variable {X : Cx}
def rIndex (K : PySem.W.Frag) : V → List V → Hp → VK → Prop := fun x xs H Q => ∃ (a : Addr) (ys : List V) (y : V) (j : Nat) (z : V), x = V.ref a ∧ xs = [y] ∧ SqL K H a ys ∧ flatV y = true ∧ ys.all flatV = true ∧ ys[j]? = some z ∧ eqV z y = true ∧
  (∀ (m : Nat) (z' : V), m < j → ys[m]? = some z' → eqV z' y = false) ∧ Q (.int (j : Nat)) H
theorem flat_at {ys : List V} (f : ys.all flatV = true) {j : Nat} {z : V} (h : ys[j]? = some z) : flatV z = true := List.all_eq_true.mp f z (List.mem_of_getElem? h)
theorem mt_index : MtR X "list.index" (rIndex X.K) := by
  intro pins s σ H x xs v us Q I rx rxs h
  obtain ⟨a, ys, y, j, z, rfl, rfl, hs, fy, fys, hz, hzj, hno, q⟩ := h
  cases rx
  cases rxs with
  | cons ry rt =>
    rename_i uy ut
    cases rt
    obtain ⟨its, rv, ⟨⟨cls, dd, data, sl⟩, n, ho, hc, hdn, hd⟩, hlen⟩ := I.list hs
    simp only at hc hd
    subst hc hd
    obtain ⟨u, hu, ru⟩ := rv.get hz
    obtain ⟨hjl, hje⟩ := List.getElem?_eq_some_iff.mp hu
    have hvl := rv.length
    have hj : j < its.toArray.size := by simpa using hjl
    have hsl := sizeLine_eq
    refine call_meets PySem.F.slot_list_index ⟨_, ho, rfl⟩ PySem.F.entry_list_index (PySem.F.args_list_index_2 _ _)
      (SeqAt.list_indexAt a its.toArray n dd sl uy (eqU y) j hj (by omega) ?_ ?_) ⟨ho, fun u' hu' => mem_eqAt ry fy rv fys u' (by simpa using hu'), ?_⟩
    · have e1 : its.toArray[j] = u := by simpa using hje
      rw [e1, eqU_of ru (flat_at fys hz)]
      exact hzj
    · intro m hm hmj
      have hml : m < its.length := by simpa using hm
      have hmy : m < ys.length := by omega
      have hy' : ys[m]? = some ys[m] := List.getElem?_eq_getElem hmy
      obtain ⟨u2, hu2, ru2⟩ := rv.get hy'
      obtain ⟨_, hme⟩ := List.getElem?_eq_some_iff.mp hu2
      have e1 : its.toArray[m] = u2 := by simpa using hme
      rw [e1, eqU_of ru2 (flat_at fys hy')]
      exact hno m _ hmj hy'
    · exact ⟨.int (j : Nat), H, I.tok _, ⟨_, rfl⟩, q⟩
end

/-! ### type(x) of an own instance; is, is not of a module's class -/
section
variable {X : Cx}
end

/-! ### any(xs), all(xs) of a list of bools -/
section
variable {X : Cx}
def rAny (K : PySem.W.Frag) : List V → Hp → VK → Prop := fun vs H Q => ∃ (a : Addr) (bs : List Bool), vs = [V.ref a] ∧ SqL K H a (bs.map V.bl) ∧ Q (.bl (bs.any id)) H
def rAll (K : PySem.W.Frag) : List V → Hp → VK → Prop := fun vs H Q => ∃ (a : Addr) (bs : List Bool), vs = [V.ref a] ∧ SqL K H a (bs.map V.bl) ∧ Q (.bl (bs.all id)) H
end

/-! ### == and != of data at any depth: none, bools, ints, texts, lists, tuples -/
mutual
inductive Dp (K : PySem.W.Frag) (H : Hp) : V → PyData → Prop
  | non : Dp K H .non .none
  | bl (b : Bool) : Dp K H (.bl b) (.bool b)
  | int (i : Int) : Dp K H (.int i) (.int i)
  | str (x : Str) : Dp K H (.str x) (.str x)
  | lst {a : Addr} {xs : List V} {ds : List PyData} : SqL K H a xs → DpAll K H xs ds → Dp K H (.ref a) (.list ds)
  | tup {a : Addr} {xs : List V} {ds : List PyData} : SqT K H a xs → DpAll K H xs ds → Dp K H (.ref a) (.tuple ds)
inductive DpAll (K : PySem.W.Frag) (H : Hp) : List V → List PyData → Prop
  | nil : DpAll K H [] []
  | cons {v : V} {vs : List V} {d : PyData} {ds : List PyData} : Dp K H v d → DpAll K H vs ds → DpAll K H (v :: vs) (d :: ds)
end
section
variable {X : Cx} {pins : List (Addr × Obj)} {σ : St} {H : Hp} {s : Shared}
mutual
theorem Dp.reads (I : Inv X pins σ H s) : ∀ (d : PyData) (v : V) (u : Value), Dp X.K H v d → RelV v u → ∃ as, Reads s.heap u d as
  | .none, _, _, h, r => by
    cases h
    cases r
    exact ⟨_, Reads.none⟩
  | .bool b, _, _, h, r => by
    cases h
    cases r
    exact ⟨_, Reads.bool b⟩
  | .int i, _, _, h, r => by
    cases h
    obtain ⟨t, rfl⟩ := r
    exact ⟨_, Reads.int i t⟩
  | .str x, _, _, h, r => by
    cases h
    obtain ⟨t, rfl⟩ := r
    exact ⟨_, Reads.str x t⟩
  | .list ds, _, _, h, r => by
    cases h with
    | lst hs ha =>
      cases r
      obtain ⟨its, rv, ⟨o, n, ho, hc, _, hd⟩, _⟩ := I.list hs
      obtain ⟨as, hr⟩ := Dp.readsAll I ds _ its ha rv
      exact ⟨_, Reads.list ho hc hd hr⟩
  | .tuple ds, _, _, h, r => by
    cases h with
    | tup hs ha =>
      cases r
      obtain ⟨its, rv, ⟨o, ho, hc, n, hd⟩, _⟩ := I.tuple hs
      obtain ⟨as, hr⟩ := Dp.readsAll I ds _ its ha rv
      exact ⟨_, Reads.tuple ho hc hd hr⟩
  | .dict _, _, _, h, _ => by cases h
theorem Dp.readsAll (I : Inv X pins σ H s) : ∀ (ds : List PyData) (vs : List V) (us : List Value), DpAll X.K H vs ds → Vals vs us → ∃ as, ReadsAll s.heap us ds as
  | [], _, _, h, r => by
    cases h
    cases r
    exact ⟨_, ReadsAll.nil⟩
  | d :: ds, _, _, h, r => by
    cases h with
    | cons h1 h2 =>
      cases r with
      | cons r1 r2 =>
        obtain ⟨as, q1⟩ := Dp.reads I d _ _ h1 r1
        obtain ⟨bs, q2⟩ := Dp.readsAll I ds _ _ h2 r2
        exact ⟨_, ReadsAll.cons q1 q2⟩
end
end
section
variable {X : Cx}
def rEqD (K : PySem.W.Frag) : R2 := fun x y H Q => ∃ d e, Dp K H x d ∧ Dp K H y e ∧ SeqAt.shaped d = true ∧ SeqAt.shaped e = true ∧ Q (.bl (PyData.eqv d e)) H
def rNeD (K : PySem.W.Frag) : R2 := fun x y H Q => ∃ d e, Dp K H x d ∧ Dp K H y e ∧ SeqAt.shaped d = true ∧ SeqAt.shaped e = true ∧ Q (.bl (!PyData.eqv d e)) H
theorem op_eqD (hu : X.A.units + 64 < cLine) : OpR X (compareOp .Eq) (rEqD X.K) := by
  intro pins s σ H x y v u Q I rx ry h
  obtain ⟨d, e, hd, he, sd, se, q⟩ := h
  obtain ⟨as, r1⟩ := Dp.reads I d x v hd rx
  obtain ⟨bs, r2⟩ := Dp.reads I e y u he ry
  exact SeqAt.compareEq_shaped r1 r2 sd se hu ⟨.bl _, H, I, rfl, q⟩
theorem op_neD (hu : X.A.units + 64 < cLine) : OpR X (compareOp .NotEq) (rNeD X.K) := by
  intro pins s σ H x y v u Q I rx ry h
  obtain ⟨d, e, hd, he, sd, se, q⟩ := h
  obtain ⟨as, r1⟩ := Dp.reads I d x v hd rx
  obtain ⟨bs, r2⟩ := Dp.reads I e y u he ry
  exact SeqAt.compareNe_shaped r1 r2 sd se hu ⟨.bl _, H, I, rfl, q⟩
end
end L2

namespace L2
open PySem PySem.Spec PyProof.Rows
abbrev CellAt (h : Heap) (c : Addr) (v : Option Value) : Prop := h.IsCell c v
def relS (scope sc : Scope) : Scope :=
  { scope with names := scope.names.map fun (n, k) => if (k == .free && sc.kind == .function && sc.names.lookup n == some .cell) then (n, .cell) else (n, k) }

def cloFrom (cells : List (Str × Addr)) : List (Str × NameKind) → List (Str × Addr) → List (Str × Addr)
  | [], acc => acc
  | (n, k) :: r, acc => if k == .free then cloFrom cells r ((n, (cells.lookup n).getD 0) :: acc) else cloFrom cells r acc

theorem closure_loop (env : Env) (f : Str × NameKind → List (Str × Addr) → Sem (ForInStep (List (Str × Addr))))
    (hf : ∀ n k c, f (n, k) c = if k == .free then (do let a ← cellOf env n; pure (.yield ((n, a) :: c))) else pure (.yield c)) :
    ∀ (names : List (Str × NameKind)) (acc : List (Str × Addr)), (∀ y ∈ names, y.2 = .free → ∃ c, env.cells.lookup y.1 = some c) → forIn names acc f = pure (cloFrom env.cells names acc)
  | [], acc, _ => by rw [List.forIn_nil]; rfl
  | (n, k) :: r, acc, h => by
    rw [List.forIn_cons, hf]
    have ih := fun acc => closure_loop env f hf r acc fun y hy => h y (List.mem_cons_of_mem _ hy)
    unfold cloFrom
    by_cases hk : (k == NameKind.free) = true
    · rw [if_pos hk, if_pos hk]
      obtain ⟨c, hc⟩ := h (n, k) List.mem_cons_self (by simpa using hk)
      have e : cellOf env n = pure c := by unfold cellOf; rw [hc]
      rw [e]
      have e2 : (env.cells.lookup n).getD 0 = c := by rw [hc]; rfl
      rw [e2]
      exact ih _
    · rw [if_neg hk, if_neg hk]
      exact ih _
theorem closure_ok {scope : Scope} {env : Env} (h : ∀ y ∈ scope.names, y.2 = .free → ∃ c, env.cells.lookup y.1 = some c) : closureFor scope env = pure (cloFrom env.cells scope.names []) := by
  simp only [closureFor]
  rw [closure_loop env _ (fun n k c => rfl) scope.names [] h]
  rfl

theorem mem_lookup {α : Type} : ∀ {l : List (Str × α)} {n : Str} {c : α}, (n, c) ∈ l → ∃ c', l.lookup n = some c'
  | (k, v) :: r, n, c, h => by
    rw [List.lookup_cons]
    cases hb : n == k with
    | true => exact ⟨_, rfl⟩
    | false =>
      rcases List.mem_cons.mp h with e | h
      · cases e; simp at hb
      · exact mem_lookup h

theorem cloFrom_mem {cells : List (Str × Addr)} : ∀ {names : List (Str × NameKind)} {acc : List (Str × Addr)} {n : Str} {c : Addr}, (n, c) ∈ cloFrom cells names acc → (n, c) ∈ acc ∨ ((n, .free) ∈ names ∧ c = (cells.lookup n).getD 0)
  | [], _, _, _, h => .inl h
  | (m, k) :: r, acc, n, c, h => by
    unfold cloFrom at h
    split at h
    · rename_i hk
      have hk : k = .free := by simpa using hk
      rcases cloFrom_mem h with h | ⟨h1, h2⟩
      · rcases List.mem_cons.mp h with e | h
        · cases e; exact .inr ⟨hk ▸ List.mem_cons_self, rfl⟩
        · exact .inl h
      · exact .inr ⟨List.mem_cons_of_mem _ h1, h2⟩
    · rcases cloFrom_mem h with h | ⟨h1, h2⟩
      · exact .inl h
      · exact .inr ⟨List.mem_cons_of_mem _ h1, h2⟩
theorem cloFrom_acc {cells : List (Str × Addr)} : ∀ {names : List (Str × NameKind)} {acc : List (Str × Addr)} {p : Str × Addr}, p ∈ acc → p ∈ cloFrom cells names acc
  | [], _, _, h => h
  | (m, k) :: r, acc, p, h => by
    unfold cloFrom
    split
    · exact cloFrom_acc (List.mem_cons_of_mem _ h)
    · exact cloFrom_acc h
theorem cloFrom_has {cells : List (Str × Addr)} : ∀ {names : List (Str × NameKind)} {acc : List (Str × Addr)} {n : Str}, (n, .free) ∈ names → (n, (cells.lookup n).getD 0) ∈ cloFrom cells names acc
  | (m, k) :: r, acc, n, h => by
    unfold cloFrom
    rcases List.mem_cons.mp h with e | h
    · cases e
      exact cloFrom_acc List.mem_cons_self
    · split
      · exact cloFrom_has h
      · exact cloFrom_has h

theorem cells_mem : ∀ {names : List (Str × NameKind)} {h : Heap} {acc : List (Str × Addr)} {x : Str} {c : Addr}, (x, c) ∈ cellsFrom h.objs.size names acc →
    (x, c) ∈ acc ∨ ((x, .cell) ∈ names ∧ h.objs.size ≤ c ∧ CellAt (pushCells h names) c none)
  | [], _, _, _, _, h => .inl h
  | (n, k) :: r, h, acc, x, c, hm => by
    unfold cellsFrom at hm
    unfold pushCells
    split at hm
    · rename_i hk
      rw [if_pos hk]
      have hk : k = .cell := by simpa using hk
      rw [← Heap.size_push h { cls := .type "cell", data := .cell none }] at hm
      rcases cells_mem hm with hm | ⟨h1, h2, h3⟩
      · rcases List.mem_cons.mp hm with e | hm
        · cases e
          exact .inr ⟨hk ▸ List.mem_cons_self, Nat.le_refl _, _, pushCells_keeps r _ _ _ (Heap.get?_push_size _ rfl), rfl⟩
        · exact .inl hm
      · rw [Heap.size_push] at h2
        exact .inr ⟨List.mem_cons_of_mem _ h1, Nat.le_of_succ_le h2, h3⟩
    · rename_i hk
      rw [if_neg hk]
      rcases cells_mem hm with hm | ⟨h1, h2, h3⟩
      · exact .inl hm
      · exact .inr ⟨List.mem_cons_of_mem _ h1, h2, h3⟩
theorem cells_acc : ∀ {names : List (Str × NameKind)} {n : Nat} {acc : List (Str × Addr)} {p : Str × Addr}, p ∈ acc → p ∈ cellsFrom n names acc
  | [], _, _, _, h => h
  | (m, k) :: r, n, acc, p, h => by
    unfold cellsFrom
    split
    · exact cells_acc (List.mem_cons_of_mem _ h)
    · exact cells_acc h
theorem cells_has : ∀ {names : List (Str × NameKind)} {n : Nat} {acc : List (Str × Addr)} {x : Str}, (x, .cell) ∈ names → ∃ c, (x, c) ∈ cellsFrom n names acc
  | (m, k) :: r, n, acc, x, h => by
    unfold cellsFrom
    rcases List.mem_cons.mp h with e | h
    · cases e
      exact ⟨n, cells_acc List.mem_cons_self⟩
    · split
      · exact cells_has h
      · exact cells_has h
theorem cells_inj : ∀ {names : List (Str × NameKind)} {h : Heap} {acc : List (Str × Addr)} {x y : Str} {c : Addr}, (∀ p ∈ acc, p.2 < h.objs.size) → (∀ x y c, (x, c) ∈ acc → (y, c) ∈ acc → x = y) →
    (x, c) ∈ cellsFrom h.objs.size names acc → (y, c) ∈ cellsFrom h.objs.size names acc → x = y
  | [], _, _, _, _, _, _, hi, h1, h2 => hi _ _ _ h1 h2
  | (n, k) :: r, h, acc, x, y, c, hl, hi, h1, h2 => by
    unfold cellsFrom at h1 h2
    split at h1
    · rename_i hk
      rw [if_pos hk] at h2
      rw [← Heap.size_push h { cls := .type "cell", data := .cell none }] at h1 h2
      refine cells_inj (h := h.push _) (fun p hp => ?_) (fun x y c a b => ?_) h1 h2
      · rw [Heap.size_push]
        rcases List.mem_cons.mp hp with rfl | hp
        · exact Nat.lt_succ_self _
        · exact Nat.lt_succ_of_lt (hl p hp)
      · rcases List.mem_cons.mp a with e | a <;> rcases List.mem_cons.mp b with e' | b
        · cases e; cases e'; rfl
        · cases e; exact absurd (hl _ b) (Nat.lt_irrefl _)
        · cases e'; exact absurd (hl _ a) (Nat.lt_irrefl _)
        · exact hi _ _ _ a b
    · rename_i hk
      rw [if_neg hk] at h2
      exact cells_inj hl hi h1 h2

theorem newEnv_comp {M : Model} {A : Around} {E : Value → Shared → Prop} {s : Shared} {scope : Scope} {globals : Addr} {closure : List (Str × Addr)} {qual : Str} {func : Option Addr} {code : Value} {around : Env} {builtins : Addr} {Q : Env → Shared → Prop}
    (h : Q (newEnv scope s.heap.objs.size globals (cellsFrom (s.heap.objs.size + 1) scope.names closure) qual func code (some around) builtins)
      { s with heap := pushCells (s.heap.push { cls := .type "dict", data := .dict #[] }) scope.names }) :
    wpAny M A (newFunctionEnv scope globals closure [] qual func code (some around) builtins) Q E s := by
  simp only [newFunctionEnv, Option.isSome_some, if_true]
  refine wpAny_bind (wpAny_alloc ?_)
  refine wpAny_bind (wpAny_layCells _ (fun n k c => rfl) scope.names closure _ _ ?_)
  rw [show ({ s with heap := s.heap.push { cls := .type "dict", data := .dict #[] } } : Shared).heap.objs.size = s.heap.objs.size + 1 from Heap.size_push ..]
  rw [List.forIn_nil]
  exact wpAny_bind (wpAny_pure (wpAny_pure h))

/-- every name of the written scope, in the scope that runs -/
theorem lookup_relS {sc : Scope} : ∀ {names : List (Str × NameKind)} {x : Str} {k : NameKind},
    (names.map fun (n, k) => if (k == NameKind.free && sc.kind == .function && sc.names.lookup n == some .cell) then (n, NameKind.cell) else (n, k)).lookup x = some k →
    ∃ k', names.lookup x = some k' ∧ (k = k' ∨ (k' = .free ∧ k = .cell))
  | [], _, _, h => by simp at h
  | (n, k₀) :: r, x, k, h => by
    have ih := @lookup_relS sc r x k
    have h' : List.lookup x ((if (k₀ == NameKind.free && sc.kind == .function && sc.names.lookup n == some .cell) = true then (n, NameKind.cell) else (n, k₀)) :: (r.map _)) = some k := h
    cases hx : x == n with
    | true =>
      simp only [List.lookup_cons, hx]
      by_cases hc : (k₀ == NameKind.free && sc.kind == .function && sc.names.lookup n == some .cell) = true
      · rw [if_pos hc] at h'
        simp only [List.lookup_cons, hx] at h'
        cases h'
        simp only [Bool.and_eq_true, beq_iff_eq] at hc
        exact ⟨k₀, rfl, .inr ⟨hc.1.1, rfl⟩⟩
      · rw [if_neg hc] at h'
        simp only [List.lookup_cons, hx] at h'
        cases h'
        exact ⟨_, rfl, .inl rfl⟩
    | false =>
      simp only [List.lookup_cons, hx]
      by_cases hc : (k₀ == NameKind.free && sc.kind == .function && sc.names.lookup n == some .cell) = true
      · rw [if_pos hc] at h'
        simp only [List.lookup_cons, hx] at h'
        exact ih h'
      · rw [if_neg hc] at h'
        simp only [List.lookup_cons, hx] at h'
        exact ih h'
/-- the names of a comprehension's block: its own (with their places in N), or captured -/
structure BlkOk (N : List Str) (sc scope : Scope) (own : List (Str × Nat)) : Prop where
  kind : scope.kind = .function
  uniq : ∀ y ∈ scope.names, scope.names.lookup y.1 = some y.2
  ix : ∀ p ∈ own, N[p.2]? = some p.1
  free : ∀ y ∈ scope.names, y.2 = .free → sc.names.lookup y.1 = some .cell ∨ sc.names.lookup y.1 = some .free
  own : ∀ y ∈ scope.names, y.2 = .local ∨ y.2 = .cell → y.1 ∈ own.map (·.1) ∨ y.1 ∉ N
/-- the slots of the block's own names forgotten -/
def wipe (σ : St) : List Nat → St
  | [] => σ
  | v :: vs => (wipe σ vs).set v none
theorem wipe_length (σ : St) : ∀ vs : List Nat, (wipe σ vs).length = σ.length
  | [] => rfl
  | v :: vs => by unfold wipe; rw [List.length_set, wipe_length σ vs]
theorem wipe_some {σ : St} {i : Nat} {x : V} : ∀ {vs : List Nat}, (wipe σ vs)[i]? = some (some x) → σ[i]? = some (some x) ∧ i ∉ vs
  | [], h => ⟨h, by simp⟩
  | v :: vs, h => by
    unfold wipe at h
    by_cases hi : v = i
    · subst hi
      by_cases hv : v < (wipe σ vs).length
      · rw [List.getElem?_set_self hv] at h; cases h
      · rw [List.getElem?_eq_none (by simpa using hv)] at h; cases h
    · rw [List.getElem?_set_ne hi] at h
      obtain ⟨h1, h2⟩ := wipe_some h
      exact ⟨h1, by simp only [List.mem_cons, not_or]; exact ⟨fun e => hi e.symm, h2⟩⟩

/-- the context of a block that starts at s, its iterator's objects at fp -/
abbrev Cx.blk (X : Cx) (s : Shared) (H : Hp) (scope : Scope) (cenv : Env) (fp : List Addr) : Cx := { X with s_0 := s, H_0 := H, env := cenv, outer := X.stack, ex := fp, fn := fun x => scope.names.lookup x == some .cell, pn := [], xe := fun _ _ => False }
section
variable {X : Cx} {pins : List (Addr × Obj)} {σ : St} {H : Hp} {s : Shared}
theorem block_start {scope : Scope} {own : List (Str × Nat)} {fp : List Addr} (I : Inv X pins σ H s) (ok : BlkOk X.N X.env.scope scope own) (hN : X.N.Nodup) (hfp : ∀ b ∈ fp, FpOk X pins H b ∧ b < s.heap.objs.size) :
    Inv (X.blk s H scope (compEnvC scope (cellsFrom (s.heap.objs.size + 1) scope.names (cloFrom X.env.cells scope.names [])) s.heap.objs.size X.env) fp) [] (wipe σ (own.map (·.2))) H { s with heap := pushCells (s.heap.push { cls := .type "dict", data := .dict #[] }) scope.names } := by
  have hfree : ∀ y ∈ scope.names, y.2 = .free → ∃ c, X.env.cells.lookup y.1 = some c := fun y hy e => by
    rcases ok.free y hy e with k | k
    · exact I.ok.has _ (.inl k)
    · exact I.ok.has _ (.inr k)
  generalize hcenv : compEnvC scope (cellsFrom (s.heap.objs.size + 1) scope.names (cloFrom X.env.cells scope.names [])) s.heap.objs.size X.env = cenv
  have kp : ∀ b o, s.heap.get? b = some o → (pushCells (s.heap.push { cls := .type "dict", data := .dict #[] }) scope.names).get? b = some o := fun b o e => pushCells_keeps _ _ _ _ (Heap.get?_push_of_some _ e)
  have hL : cenv.locals = s.heap.objs.size := by rw [← hcenv]; rfl
  have hcl : cenv.cells = cellsFrom (s.heap.objs.size + 1) scope.names (cloFrom X.env.cells scope.names []) := by rw [← hcenv]; rfl
  have hsc : cenv.scope = relS scope X.env.scope := by rw [← hcenv]; rfl
  rw [← Heap.size_push s.heap { cls := .type "dict", data := .dict #[] }] at hcl
  have cm : ∀ {y c}, (y, c) ∈ cloFrom X.env.cells scope.names [] → X.env.cells.lookup y = some c ∧ c < s.heap.objs.size := fun {y c} hm => by
    rcases cloFrom_mem hm with hm | ⟨h1, rfl⟩
    · cases hm
    · obtain ⟨c, hc⟩ := hfree _ h1 rfl
      rw [hc]
      obtain ⟨w, z⟩ := I.cell _ _ hc
      exact ⟨rfl, z.lt⟩
  have mem : ∀ {y c}, cenv.cells.lookup y = some c → (X.env.cells.lookup y = some c ∧ c < s.heap.objs.size) ∨ (s.heap.objs.size + 1 ≤ c ∧ CellAt (pushCells (s.heap.push { cls := .type "dict", data := .dict #[] }) scope.names) c none) := fun {y c} e => by
    rw [hcl] at e
    rcases cells_mem (PySem.mem_of_lookup e) with hm | ⟨_, h2, h3⟩
    · exact .inl (cm hm)
    · rw [Heap.size_push] at h2; exact .inr ⟨h2, h3⟩
  have look : ∀ {y}, scope.names.lookup y = some .free → ∃ c, cenv.cells.lookup y = some c ∧ X.env.cells.lookup y = some c := fun {y} hl => by
    have hy : (y, NameKind.free) ∈ scope.names := PySem.mem_of_lookup hl
    obtain ⟨c', e'⟩ := mem_lookup (cells_acc (names := scope.names) (n := (s.heap.push { cls := .type "dict", data := .dict #[] }).objs.size) (cloFrom_has (cells := X.env.cells) (acc := []) hy))
    rw [← hcl] at e'
    refine ⟨c', e', ?_⟩
    rw [hcl] at e'
    rcases cells_mem (PySem.mem_of_lookup e') with hm | ⟨h1, _, _⟩
    · exact (cm hm).1
    · have := ok.uniq _ h1
      rw [hl] at this; cases this
  have okB : (X.blk s H scope cenv fp).Ok := by
    refine ⟨I.ok.mod, by show cenv.scope.kind = _; rw [hsc]; exact ok.kind, by show cenv.globals = _; rw [← hcenv]; exact I.ok.glob, by show cenv.builtins = _; rw [← hcenv]; exact I.ok.blt, by show s.heap.objs.size ≤ cenv.locals; rw [hL]; exact Nat.le_refl _,
      fun y z c e1 e2 => ?_, fun y hy => ?_, fun y c z e => ?_, I.ok.hd, I.ok.frames, .inl rfl, fun b hb => ⟨?_, fun y c e z => ?_⟩, I.bs, Nat.le_trans I.ok.bsz I.sz, fun b o e hb => ?_, fun b hb z => ?_, I.stack, I.stkFree⟩
    · have e1 : cenv.cells.lookup y = some c := e1
      have e2 : cenv.cells.lookup z = some c := e2
      rw [hcl] at e1 e2
      refine cells_inj (fun p hp => ?_) (fun y z c a b => I.ok.inj y z c (cm a).1 (cm b).1) (PySem.mem_of_lookup e1) (PySem.mem_of_lookup e2)
      rw [Heap.size_push]
      exact Nat.lt_succ_of_lt (cm (y := p.1) (c := p.2) hp).2
    · show ∃ c, cenv.cells.lookup y = some c
      have key : ∀ k, cenv.kindOf y = some k → (k = .cell ∨ k = .free) → ∃ c, cenv.cells.lookup y = some c := fun k hk hk' => by
        unfold Env.kindOf at hk
        rw [hsc] at hk
        obtain ⟨k', e, r⟩ := lookup_relS hk
        have : k' = .cell ∨ k' = .free := by
          rcases r with rfl | ⟨rfl, _⟩
          · exact hk'
          · exact .inr rfl
        rcases this with rfl | rfl
        · obtain ⟨c, hm⟩ := cells_has (n := (s.heap.push { cls := .type "dict", data := .dict #[] }).objs.size) (acc := cloFrom X.env.cells scope.names []) (PySem.mem_of_lookup e)
          obtain ⟨c', e'⟩ := mem_lookup hm
          exact ⟨c', by rw [hcl]; exact e'⟩
        · obtain ⟨c, h1, _⟩ := look e
          exact ⟨c, h1⟩
      rcases hy with hy | hy
      · exact key _ hy (.inl rfl)
      · exact key _ hy (.inr rfl)
    · have z : (scope.names.lookup y == some NameKind.cell) = true := z
      have z : scope.names.lookup y = some .cell := by simpa using z
      have e : cenv.cells.lookup y = some c := e
      rw [hcl] at e
      rcases cells_mem (PySem.mem_of_lookup e) with hm | ⟨_, h2, _⟩
      · rcases cloFrom_mem hm with hm | ⟨h1, _⟩
        · cases hm
        · have q := ok.uniq _ h1
          rw [z] at q; cases q
      · rw [Heap.size_push] at h2
        exact Nat.le_of_succ_le h2
    · show b ≠ cenv.locals
      rw [hL]; exact Nat.ne_of_lt (hfp b hb).2
    · have e : cenv.cells.lookup y = some c := e
      rcases mem e with ⟨h1, _⟩ | ⟨h1, _⟩
      · exact (hfp b hb).1.2.2.2.2.1 y c h1 z
      · have h2 : s.heap.objs.size + 1 ≤ b := by rw [← z]; exact h1
        exact absurd (Nat.lt_of_lt_of_le (hfp b hb).2 (Nat.le_of_succ_le h2)) (Nat.lt_irrefl _)
    · rcases (hfp b hb).1.2.2.2.1 with z | z
      · exact I.ok.noex b o e z
      · exact absurd (Nat.lt_of_lt_of_le (Heap.lt_size e) (Nat.le_trans I.ok.bsz z)) (Nat.lt_irrefl _)
    · rcases List.mem_cons.mp (I.stkSub b z) with z | z
      · exact (hfp b hb).1.2.1 z
      · exact (hfp b hb).1.2.2.1 z
  refine ⟨okB, rfl, I.bare, Un.kept kp, ⟨fun _ => none, ?_, fun i y av e1 e2 e3 => ?_⟩, fun y c e => ?_, ?_, fun y c e => ?_, fun p hp => ?_, I.hok.kept kp, by rw [wipe_length]; exact I.len⟩
  · show Heap.Ns _ cenv.locals _
    rw [hL]
    exact Heap.Ns.keeps (Heap.Ns.new ..) fun b o e => pushCells_keeps _ _ _ _ e
  · obtain ⟨e2, hne⟩ := wipe_some e2
    have hfr : scope.names.lookup y = some .free ∧ (cenv.kindOf y = some .cell ∨ cenv.kindOf y = some .free) := by
      have key : ∀ k, cenv.scope.names.lookup y = some k → k = .local ∨ k = .cell ∨ k = .free → scope.names.lookup y = some .free ∧ (cenv.kindOf y = some .cell ∨ cenv.kindOf y = some .free) := fun k hk hk' => by
        have hk0 := hk
        rw [hsc] at hk
        obtain ⟨k', e, r⟩ := lookup_relS hk
        have no : ¬ (k' = .local ∨ k' = .cell) := fun hh => by
          rcases ok.own _ (PySem.mem_of_lookup e) hh with e' | e'
          · obtain ⟨p, hp, hpy⟩ := List.mem_map.mp e'
            have e3 := ok.ix p hp
            have : p.1 = y := hpy
            rw [this] at e3
            exact hne (List.mem_map.mpr ⟨p, hp, nodup_ix hN e3 e1⟩)
          · exact e' (List.mem_of_getElem? e1)
        rcases r with rfl | ⟨rfl, rfl⟩
        · rcases hk' with rfl | rfl | rfl
          · exact absurd (.inl rfl) no
          · exact absurd (.inr rfl) no
          · exact ⟨e, .inr hk0⟩
        · exact ⟨e, .inl hk0⟩
      have e3 : Vis cenv.scope y := e3
      rcases e3 with e3 | e3 | e3
      · exact key _ e3 (.inl rfl)
      · exact key _ e3 (.inr (.inl rfl))
      · exact key _ e3 (.inr (.inr rfl))
    obtain ⟨m, hn, hl⟩ := I.loc
    have hvis : Vis X.env.scope y := (ok.free _ (PySem.mem_of_lookup hfr.1) rfl).elim (fun k => .inr (.inl k)) (fun k => .inr (.inr k))
    obtain ⟨w, r, q⟩ := hl i y av e1 e2 hvis
    refine ⟨w, r, .inr ⟨hfr.2, ?_⟩⟩
    obtain ⟨c, h1, h2⟩ := look hfr.1
    rcases q with ⟨k, _⟩ | ⟨_, c', e', z⟩
    · have k : X.env.scope.names.lookup y = some .local := k
      rcases ok.free _ (PySem.mem_of_lookup hfr.1) rfl with k' | k' <;> rw [show X.env.scope.names.lookup y = _ from k'] at k <;> cases k
    · rw [h2] at e'; cases e'
      exact ⟨c, h1, z.keeps kp⟩
  · have e : cenv.cells.lookup y = some c := e
    rcases mem e with ⟨h1, _⟩ | ⟨_, z⟩
    · obtain ⟨w, z⟩ := I.cell y c h1
      exact ⟨w, z.keeps kp⟩
    · exact ⟨_, z⟩
  · show H cenv.locals = none
    rw [hL]; exact I.hok.fresh (Nat.le_refl _)
  · have e : cenv.cells.lookup y = some c := e
    rcases mem e with ⟨h1, _⟩ | ⟨h1, _⟩
    · exact I.freeC y c h1
    · exact I.hok.fresh (Nat.le_of_succ_le h1)
  · exact absurd (show p ∈ ([] : List (Addr × Obj)) ++ [] from hp) (by simp)

/-- an item appended to a tracked list -/
theorem app_ok {E : Value → Shared → Prop} {D : Addr} {xs : List V} {y : V} {v : Value} {Q : Value → Shared → Prop} (I : Inv X pins σ H s) (hD : H D = some (.lst xs)) (hz : xs.length < sizeLine) (r : RelV y v)
    (h : ∀ s', Inv X pins σ (upd H D (.lst (xs ++ [y]))) s' → Q .none s') : wpAny (model X.prog X.w) X.A (call (.builtin "list.append") [.ref D, v]) Q E s := by
  obtain ⟨hz', its, n, ri, e⟩ := I.hok D _ hD
  have hl := ri.length
  refine append_at (hsz := by rw [List.size_toArray]; omega) e fun h' sb ho' => ?_
  refine h { s with heap := h' } (I.write (t' := s.toks) (by rw [hD]; trivial) (.inl rfl) (fun b u hb q => (sb.2 b hb).trans q) ⟨_, ho'⟩ ⟨by rw [List.length_append]; exact hz, its ++ [v], n + 1, ri.append (.cons r .nil), ?_⟩)
  rw [ho']
  simp

/-- a clause's tests -/
def PTs (X : Cx) (ifs : List Expr) (t : TT) : Prop :=
  ∀ (pins : List (Addr × Obj)) (s : Shared) (σ : St) (H : Hp) (Q : Bool → Hp → Prop), Inv X pins σ H s → t σ H Q →
    wpAny (model X.prog X.w) X.A (forIn ifs true fun c r => if r = true then do let ok ← isTrue c X.env (eval c X.env); pure (ForInStep.yield ok) else pure (ForInStep.yield r)) (TP X pins σ Q) X.xe s
def tYes : TT := fun _ H Q => Q true H
theorem pts_one {c : Expr} {t : TT} (h : PT X c t) : PTs X [c] t := fun pins s σ H Q I hw => wpAny_tests_one (h pins s σ H Q I hw)
end

theorem thnF {α : Type} {t : Sem α} {Q Q' : α → Shared → Prop} {M : Model} {A : Around} {E : Value → Shared → Prop} {s : Shared} (h : wpAny M A t Q (fun _ _ => False) s) (hQ : ∀ a s, Q a s → Q' a s) : wpAny M A t Q' E s := wpAny_mono h hQ fun _ _ z => False.elim z

/-- the loop of a list comprehension's block, the target of any form (codeAny_compLoop_tests asks a target that no tuple goes to; statement and proof follow it, PyProof/CompMap.lean:41-61, with the step letOwnedTupleGo kept) -/
theorem compLoop_any {prog : Program} {w : World} {A : Around} {R : Result → Shared → Prop} {s : Shared} {elt target iter : Expr} {ifs : List Expr} {scope : Scope} {pos : Pos} {it acc : Value} {env : Env} (I : Nat → Shared → Prop)
    (turn : ∀ n s, I n s → wpAny (model prog w) A (pyNext it) (fun r s₁ => match r with
      | none => R (.ok .next) s₁
      | some v => wpAny (model prog w) A (letOwnedTupleGo target it v) (fun _ s₁' => wpAny (model prog w) A (assign target env v) (fun _ s₂ =>
          wpAny (model prog w) A (forIn ifs true fun c r => if r = true then do let ok ← isTrue c env (eval c env); pure (ForInStep.yield ok) else pure (ForInStep.yield r)) (fun ok s₃ =>
            if ok = true then wpAny (model prog w) A (eval elt env) (fun x s₄ =>
              wpAny (model prog w) A (call (.builtin "list.append") [acc, x]) (fun _ s₅ => ∃ m, m < n ∧ I m s₅) (notedBy (model prog w) A env fun e s' => R (.error e) s') s₄) (notedBy (model prog w) A env fun e s' => R (.error e) s') s₃
            else ∃ m, m < n ∧ I m s₃) (notedBy (model prog w) A env fun e s' => R (.error e) s') s₂) (notedBy (model prog w) A env fun e s' => R (.error e) s') s₁') (notedBy (model prog w) A env fun e s' => R (.error e) s') s₁) (notedBy (model prog w) A env fun e s' => R (.error e) s') s)
    (n : Nat) (h : I n s) :
    codeAny (model prog w) A (.compLoop (.ListComp elt [⟨target, iter, ifs, 0⟩] scope pos) 0 it acc env) R s := by
  refine codeAny_loop rfl I (fun n s hI => ?_) n h
  show wpAny _ A ((compTurn (.ListComp elt [⟨target, iter, ifs, 0⟩] scope pos) 0 it acc env).onRaise (fun x => do noteFrame x env; theTreesLotGoes x)) _ _ s
  refine wpAny_noted ?_
  rw [compTurn_list]
  refine wpAny_bind (wpAny_standAt (wpAny_bind (wpAny_mono (turn n s hI) (fun r s₁ h₁ => ?_) fun _ _ h' => h')))
  cases r with
  | none => exact wpAny_pure h₁
  | some v =>
    refine wpAny_bind (wpAny_mono h₁ (fun _ s₁' h₁' => ?_) fun _ _ h' => h')
    refine wpAny_bind (wpAny_mono h₁' (fun _ s₂ h₂ => wpAny_bind (wpAny_mono h₂ (fun ok s₃ h₃ => ?_) fun _ _ h' => h')) fun _ _ h' => h')
    cases ok with
    | false => exact wpAny_pure ⟨rfl, h₃⟩
    | true =>
      exact wpAny_bind (wpAny_bind (wpAny_mono h₃ (fun x s₄ h₄ => wpAny_bind (wpAny_mono h₄ (fun _ s₅ h₅ => wpAny_pure (wpAny_pure ⟨rfl, h₅⟩)) fun _ _ h' => h')) fun _ _ h' => h'))

section
variable {X : Cx}
/-- [elt for target in iter if ..]: D the new list; W by the turn and a measure, Nx what a turn is to reach -/
def tLc (wi : TI) (g : TG) (tt : TT) (te : TE) (vs : List Nat) : TE := fun σ H Q => wi σ H fun J H1 => ∀ D, H1 D = none → ∃ W : Nat → Nat → Hp → Prop, (∃ m, W 0 m (upd H1 D (.lst []))) ∧ ∀ i m H, W i m H →
  (J.stop i H ∧ Q (.ref D) H) ∨ (J.go i H ∧ ∃ Nx : Hp → Prop, (∀ H', Nx H' → ∃ m', m' < m ∧ W (i + 1) m' H') ∧ ∀ x H', J.yld i H x H' → g x (wipe σ vs) H' fun σ2 H2 => wipe σ2 vs = wipe σ vs ∧ tt σ2 H2 fun b H3 =>
    if b = true then te σ2 H3 fun y H4 => ∃ acc, H4 D = some (.lst acc) ∧ acc.length < sizeLine ∧ Nx (upd H4 D (.lst (acc ++ [y]))) else Nx H3)
theorem lc_core {pins : List (Addr × Obj)} {s : Shared} {σ : St} {H : Hp} {Q : VK} {elt tg iter : Expr} {ifs : List Expr} {scope : Scope} {own : List (Str × Nat)} {pos pos' : Pos} {wi : TI} {g : TG} {tt : TT} {te : TE} {use : Option (Value → Sem Unit)} {Qf : Value → Shared → Prop}
    (hc : X.calm = true) (hN : X.N.Nodup) (I : Inv X pins σ H s) (hi : PI X tg iter wi) (ok : BlkOk X.N X.env.scope scope own)
    (hg : ∀ (s : Shared) (H : Hp) (C : Addr) (cl : List (Str × Addr)) (fp : List Addr), PG (X.blk s H scope (compEnvC scope cl C X.env) fp) tg g) (ht : ∀ (s : Shared) (H : Hp) (C : Addr) (cl : List (Str × Addr)) (fp : List Addr), PTs (X.blk s H scope (compEnvC scope cl C X.env) fp) ifs tt)
    (he : ∀ (s : Shared) (H : Hp) (C : Addr) (cl : List (Str × Addr)) (fp : List Addr), PE (X.blk s H scope (compEnvC scope cl C X.env) fp) elt te) (hs : ∀ x, foldedSetIterable iter X.env x = pure x)
    (h : tLc wi g tt te (own.map (·.2)) σ H Q)
    (hRR : ∀ D C s' m H', Inv X pins σ H' s' → Q (.ref D) H' → s'.heap.Ns C m → FpOk X pins H' C → compPost (model X.prog X.w) X.A X.xe use Qf (.ref D) C (.ok .next) s') :
    wpAny (model X.prog X.w) X.A (comprehension (.ListComp elt [⟨tg, iter, ifs, 0⟩] scope pos) scope X.env pos' (newList []) false (eval iter X.env) use) Qf X.xe s := by
  have hfree : ∀ y ∈ scope.names, y.2 = .free → ∃ c, X.env.cells.lookup y.1 = some c := fun y hy e => by
    rcases ok.free y hy e with k | k
    · exact I.ok.has _ (.inl k)
    · exact I.ok.has _ (.inr k)
  refine wpAny_comprehension_free (use := use) rfl hs (closure_ok hfree) ok.kind (fun y hy e => by rw [ok.uniq y hy, e])
    (thn (hi pins s σ H _ I h) fun xv s1 hx => thn hx fun itv s2 h2 => ?_)
  obtain ⟨it, fp, tn, J, H2, e, I2, T, st2, f2, q⟩ := h2
  subst e
  refine wpAny_newObj_type (newEnv_comp ?_) (by show 0 ≤ sizeLine; decide)
  generalize hD : s2.heap.objs.size = D
  have hDn : H2 D = none := I2.hok.fresh (Nat.le_of_eq hD)
  obtain ⟨W, ⟨m0, w0⟩, turn⟩ := q D hDn
  -- the new list
  generalize hs3 : ({ s2 with heap := s2.heap.push { cls := .type "list", data := .seq ([] : List Value).toArray } } : Shared) = s3
  have I3 : Inv X pins σ (upd H2 D (.lst [])) s3 := by
    rw [← hs3]
    refine I2.laid (t' := s2.toks) (fun b o e => Heap.get?_push_of_some _ e) (Nat.le_of_eq hD) ⟨Nat.zero_le _, [], 0, .nil, ?_⟩
    rw [← hD]
    exact Heap.get?_push_size _ rfl
  have h3 : s3.heap = s2.heap.push { cls := .type "list", data := .seq ([] : List Value).toArray } := by rw [← hs3]
  have sz : ∀ b ∈ fp, b < s2.heap.objs.size := fun b hb => by
    obtain ⟨o, e, _⟩ := T.obj _ _ st2 b hb
    exact Heap.lt_size e
  have f3 : ∀ b ∈ fp, FpOk X pins (upd H2 D (.lst [])) b ∧ b < s3.heap.objs.size := fun b hb => by
    have hlt := sz b hb
    refine ⟨⟨?_, (f2 b hb).2⟩, by rw [h3, Heap.size_push]; exact Nat.lt_succ_of_lt hlt⟩
    rw [upd_ne (by rw [← hD]; exact Nat.ne_of_lt hlt)]
    exact (f2 b hb).1
  have st3 : tn 0 s3.heap := T.keep _ _ _ st2 fun b _ o e => by rw [h3]; exact Heap.get?_push_of_some _ e
  have I4 := block_start I3 ok hN f3
  have pg := hg s3 (upd H2 D (.lst [])) s3.heap.objs.size (cellsFrom (s3.heap.objs.size + 1) scope.names (cloFrom X.env.cells scope.names [])) fp
  have pt := ht s3 (upd H2 D (.lst [])) s3.heap.objs.size (cellsFrom (s3.heap.objs.size + 1) scope.names (cloFrom X.env.cells scope.names [])) fp
  have pe := he s3 (upd H2 D (.lst [])) s3.heap.objs.size (cellsFrom (s3.heap.objs.size + 1) scope.names (cloFrom X.env.cells scope.names [])) fp
  show codeAny _ _ (.compStart (.ListComp elt [⟨tg, iter, ifs, 0⟩] scope pos) 0 (.ref it) (.ref D) (compEnvC scope (cellsFrom (s3.heap.objs.size + 1) scope.names (cloFrom X.env.cells scope.names [])) s3.heap.objs.size X.env)) (compPost (model X.prog X.w) X.A X.xe use Qf (.ref D) s3.heap.objs.size) { s3 with heap := pushCells (s3.heap.push { cls := .type "dict", data := .dict #[] }) scope.names }
  have nfp : ∀ b ∈ fp, (upd H2 D (.lst [])) b = none := fun b hb => (f3 b hb).1.1
  generalize hce : compEnvC scope (cellsFrom (s3.heap.objs.size + 1) scope.names (cloFrom X.env.cells scope.names [])) s3.heap.objs.size X.env = ce at I4 pg pt pe ⊢
  have cL : ce.locals = s3.heap.objs.size := by subst hce; rfl
  generalize hH3 : upd H2 D (.lst []) = H3 at I3 I4 pg pt pe w0 nfp f3
  generalize hs4 : ({ s3 with heap := pushCells (s3.heap.push { cls := .type "dict", data := .dict #[] }) scope.names } : Shared) = s4 at I4 ⊢
  have st4 : tn 0 s4.heap := T.keep _ _ _ st3 fun b _ o e => by rw [← hs4]; exact pushCells_keeps _ _ _ _ (Heap.get?_push_of_some _ e)
  have stat : ∀ {σ' : St} {H' : Hp} {s' : Shared}, Inv (X.blk s3 H3 scope ce fp) [] σ' H' s' → (∀ b ∈ fp, H' b = none) → ∀ b ∈ fp, FpOk (X.blk s3 H3 scope ce fp) [] H' b := fun {σ' H' s'} I' hn b hb =>
    ⟨hn b hb, (I'.ok.exf b hb).1, I'.ok.exfs b hb, .inl hb, fun x c e => (I'.ok.exf b hb).2 x c e, fun p hp => absurd (show p ∈ ([] : List (Addr × Obj)) ++ [] from hp) (by simp)⟩
  have loop : codeAny (model X.prog X.w) X.A (.compLoop (.ListComp elt [⟨tg, iter, ifs, 0⟩] scope pos) 0 (.ref it) (.ref D) ce) (compPost (model X.prog X.w) X.A X.xe use Qf (.ref D) s3.heap.objs.size) s4 := by
    refine compLoop_any (fun n s' => ∃ i H', Inv (X.blk s3 H3 scope ce fp) [] (wipe σ (own.map (·.2))) H' s' ∧ tn i s'.heap ∧ (∀ b ∈ fp, H' b = none) ∧ W i n H') ?_ m0 ⟨0, H3, I4, st4, nfp, w0⟩
    rintro n s5 ⟨i, H5, I5, st5, n5, w5⟩
    rcases turn i n H5 w5 with ⟨stop, qq⟩ | ⟨go, Nx, hNx, step⟩
    · have td := T.done (X.blk s3 H3 scope ce fp) rfl rfl rfl hc i [] s5 _ H5 (fun _ _ => False) I5 (stat I5 n5) st5 stop
      refine thnF td fun r s6 ⟨hr, I6⟩ => ?_
      subst hr
      -- back in the def's context
      have I7 : Inv X pins σ H5 s6 := I3.call' (ch := fp) I6.os I6.base I6.hok I6.bare fun b hb => ⟨(f3 b hb).1.2.2.2.1, (f3 b hb).1.2.1, (f3 b hb).1.2.2.2.2.1, (f3 b hb).1.2.2.2.2.2⟩
      have nC : H5 s3.heap.objs.size = none := by
        have z : H5 ce.locals = none := I6.free
        rw [cL] at z
        exact z
      obtain ⟨m, hn, _⟩ := I6.loc
      have hn : s6.heap.Ns ce.locals m := hn
      rw [cL] at hn
      exact hRR D s3.heap.objs.size s6 m H5 I7 qq hn (I3.fpOk (Nat.le_refl _) nC)
    · have ti := T.item (X.blk s3 H3 scope ce fp) rfl rfl rfl hc i [] s5 _ H5 (fun _ _ => False) I5 (stat I5 n5) st5 go
      refine thnF ti fun r s6 ⟨u, hr, h6⟩ => ?_
      subst hr
      refine thnF h6 fun _ s7 ⟨x, H7, I7, r7, y7, st7, n7⟩ => ?_
      have I7' := I7.pinned (stat I7 n7) (T.obj _ _ st7)
      refine thnF (pg _ s7 _ H7 x u _ I7' r7 (step x H7 y7)) fun _ s8 ⟨σ8, H8, I8, hw8, q8⟩ => ?_
      refine thnF (pt _ s8 σ8 H8 _ I8 q8) fun b s9 ⟨H9, I9, q9⟩ => ?_
      -- the turn's end
      have fin : ∀ {s' : Shared} {H' : Hp}, Inv (X.blk s3 H3 scope ce fp) ([] ++ pinsAt fp s7.heap) σ8 H' s' → Nx H' → ∃ m, m < n ∧ ∃ i H', Inv (X.blk s3 H3 scope ce fp) [] (wipe σ (own.map (·.2))) H' s' ∧ tn i s'.heap ∧ (∀ b ∈ fp, H' b = none) ∧ W i m H' := fun {s' H'} I' nx => by
        obtain ⟨m', hm, w'⟩ := hNx H' nx
        have pin' : ∀ b ∈ fp, ∀ o, s7.heap.get? b = some o → s'.heap.get? b = some o ∧ H' b = none := fun b hb o e =>
          let z := I'.pin (b, o) (List.mem_append_right _ (List.mem_append_right _ (mem_pinsAt hb e)))
          ⟨z.1, z.2.1⟩
        have hl : (wipe σ (own.map (·.2))).length = σ8.length := by rw [← hw8, wipe_length]
        refine ⟨m', hm, i + 1, H', (I'.unpinned (pins := [])).weak hl (fun j v e => ?_), T.keep _ _ _ st7 fun b hb o e => (pin' b hb o e).1, fun b hb => ?_, w'⟩
        · rw [← hw8] at e
          exact (wipe_some e).1
        · obtain ⟨o, e, _⟩ := T.obj _ _ st7 b hb
          exact (pin' b hb o e).2
      cases b with
      | false =>
        simp only [Bool.false_eq_true, if_false] at q9 ⊢
        exact fin I9 q9
      | true =>
        simp only [if_true] at q9 ⊢
        refine thnF (pe _ s9 σ8 H9 _ I9 q9) fun z s10 ⟨yv, H10, I10, r10, acc, hD10, hz10, nx⟩ => ?_
        exact app_ok (X := X.blk s3 H3 scope ce fp) I10 hD10 hz10 r10 fun s11 I11 => fin I11 nx
  exact codeAny_compStart_list loop (T.self X.A 0 _ _ _ st4 loop)
/-- as a value -/
theorem pe_lc {elt tg iter : Expr} {ifs : List Expr} {scope : Scope} {own : List (Str × Nat)} {pos : Pos} {wi : TI} {g : TG} {tt : TT} {te : TE} (hc : X.calm = true) (hN : X.N.Nodup) (hi : PI X tg iter wi) (ok : BlkOk X.N X.env.scope scope own)
    (hg : ∀ (s : Shared) (H : Hp) (C : Addr) (cl : List (Str × Addr)) (fp : List Addr), PG (X.blk s H scope (compEnvC scope cl C X.env) fp) tg g) (ht : ∀ (s : Shared) (H : Hp) (C : Addr) (cl : List (Str × Addr)) (fp : List Addr), PTs (X.blk s H scope (compEnvC scope cl C X.env) fp) ifs tt)
    (he : ∀ (s : Shared) (H : Hp) (C : Addr) (cl : List (Str × Addr)) (fp : List Addr), PE (X.blk s H scope (compEnvC scope cl C X.env) fp) elt te) (hs : ∀ x, foldedSetIterable iter X.env x = pure x := by intro _; rfl) :
    PE X (.ListComp elt [⟨tg, iter, ifs, 0⟩] scope pos) (tLc wi g tt te (own.map (·.2))) := by
  intro pins s σ H Q I h
  rw [eval_ListComp]
  refine lc_core hc hN I hi ok hg ht he hs h fun D C s' m H' I' q hn f => ⟨m, hn, fun h'' sb => ?_⟩
  obtain ⟨f0, f1, f2, f3, f4, f5⟩ := f
  exact ⟨.ref D, H', I'.turned (t' := s'.toks) (fun b o hb e => (sb.2 b hb).trans e) f0 f1 f3 f4 f5, rfl, q⟩
end

/-! ### the forms one uses -/
/-- over a list that the block leaves as it is -/
theorem lc_list {K : PySem.W.Frag} {a : Addr} {xs : List V} {g : TG} {tt : TT} {te : TE} {vs : List Nat} {σ : St} {H1 : Hp} {D : Addr} {Qd : Hp → Prop} (Pv : Nat → Hp → Prop) (h0 : Pv 0 (upd H1 D (.lst []))) (hl : ∀ i H, i ≤ xs.length → Pv i H → SqL K H a xs)
    (hs : ∀ i x H, xs[i]? = some x → Pv i H → g x (wipe σ vs) H fun σ2 H2 => wipe σ2 vs = wipe σ vs ∧ tt σ2 H2 fun b H3 =>
      if b = true then te σ2 H3 fun y H4 => ∃ acc, H4 D = some (.lst acc) ∧ acc.length < sizeLine ∧ Pv (i + 1) (upd H4 D (.lst (acc ++ [y]))) else Pv (i + 1) H3) (hd : ∀ H, Pv xs.length H → Qd H) :
    ∃ W : Nat → Nat → Hp → Prop, (∃ m, W 0 m (upd H1 D (.lst []))) ∧ ∀ i m H, W i m H →
      ((Itl K a).stop i H ∧ Qd H) ∨ ((Itl K a).go i H ∧ ∃ Nx : Hp → Prop, (∀ H', Nx H' → ∃ m', m' < m ∧ W (i + 1) m' H') ∧ ∀ x H', (Itl K a).yld i H x H' → g x (wipe σ vs) H' fun σ2 H2 => wipe σ2 vs = wipe σ vs ∧ tt σ2 H2 fun b H3 =>
        if b = true then te σ2 H3 fun y H4 => ∃ acc, H4 D = some (.lst acc) ∧ acc.length < sizeLine ∧ Nx (upd H4 D (.lst (acc ++ [y]))) else Nx H3) := by
  refine ⟨fun i m H => m = xs.length - i ∧ i ≤ xs.length ∧ Pv i H, ⟨xs.length, by simp, Nat.zero_le _, h0⟩, ?_⟩
  rintro i m H ⟨rfl, hi, p⟩
  have q := hl i H hi p
  by_cases hlt : i < xs.length
  · refine .inr ⟨⟨xs, xs[i], q, by simp [hlt]⟩, Pv (i + 1), fun H' p' => ⟨xs.length - (i + 1), by omega, rfl, hlt, p'⟩, fun x H' y => ?_⟩
    obtain ⟨e, y⟩ := y
    subst e
    exact hs i x _ (y xs q) p
  · have e : i = xs.length := by omega
    subst e
    exact .inl ⟨⟨xs, q, Nat.le_refl _⟩, hd H p⟩
/-- over a tuple -/
theorem lc_tup {K : PySem.W.Frag} {a : Addr} {xs : List V} {g : TG} {tt : TT} {te : TE} {vs : List Nat} {σ : St} {H1 : Hp} {D : Addr} {Qd : Hp → Prop} (Pv : Nat → Hp → Prop) (h0 : Pv 0 (upd H1 D (.lst []))) (hl : ∀ i H, i ≤ xs.length → Pv i H → SqT K H a xs)
    (hs : ∀ i x H, xs[i]? = some x → Pv i H → g x (wipe σ vs) H fun σ2 H2 => wipe σ2 vs = wipe σ vs ∧ tt σ2 H2 fun b H3 =>
      if b = true then te σ2 H3 fun y H4 => ∃ acc, H4 D = some (.lst acc) ∧ acc.length < sizeLine ∧ Pv (i + 1) (upd H4 D (.lst (acc ++ [y]))) else Pv (i + 1) H3) (hd : ∀ H, Pv xs.length H → Qd H) :
    ∃ W : Nat → Nat → Hp → Prop, (∃ m, W 0 m (upd H1 D (.lst []))) ∧ ∀ i m H, W i m H →
      ((Itt K a).stop i H ∧ Qd H) ∨ ((Itt K a).go i H ∧ ∃ Nx : Hp → Prop, (∀ H', Nx H' → ∃ m', m' < m ∧ W (i + 1) m' H') ∧ ∀ x H', (Itt K a).yld i H x H' → g x (wipe σ vs) H' fun σ2 H2 => wipe σ2 vs = wipe σ vs ∧ tt σ2 H2 fun b H3 =>
        if b = true then te σ2 H3 fun y H4 => ∃ acc, H4 D = some (.lst acc) ∧ acc.length < sizeLine ∧ Nx (upd H4 D (.lst (acc ++ [y]))) else Nx H3) := by
  refine ⟨fun i m H => m = xs.length - i ∧ i ≤ xs.length ∧ Pv i H, ⟨xs.length, by simp, Nat.zero_le _, h0⟩, ?_⟩
  rintro i m H ⟨rfl, hi, p⟩
  have q := hl i H hi p
  by_cases hlt : i < xs.length
  · refine .inr ⟨⟨xs, xs[i], q, by simp [hlt]⟩, Pv (i + 1), fun H' p' => ⟨xs.length - (i + 1), by omega, rfl, hlt, p'⟩, fun x H' y => ?_⟩
    obtain ⟨e, y⟩ := y
    subst e
    exact hs i x _ (y xs q) p
  · have e : i = xs.length := by omega
    subst e
    exact .inl ⟨⟨xs, q, Nat.le_refl _⟩, hd H p⟩
def blkC (N : List Str) (sc scope : Scope) (own : List (Str × Nat)) : Bool :=
  (match scope.kind with | .function => true | _ => false) && (scope.names.all fun y => decide (scope.names.lookup y.1 = some y.2)) && (own.all fun p => decide (N[p.2]? = some p.1)) &&
    (scope.names.all fun y => match y.2 with
      | .free => (match sc.names.lookup y.1 with | some .cell => true | some .free => true | _ => false)
      | .local => decide (y.1 ∈ own.map (·.1)) || decide (y.1 ∉ N)
      | .cell => decide (y.1 ∈ own.map (·.1)) || decide (y.1 ∉ N)
      | _ => true)
theorem blkOk_by {N : List Str} {sc scope : Scope} {own : List (Str × Nat)} (h : blkC N sc scope own = true) : BlkOk N sc scope own := by
  unfold blkC at h
  simp only [Bool.and_eq_true, List.all_eq_true, decide_eq_true_eq] at h
  obtain ⟨⟨⟨h1, h2⟩, h3⟩, h4⟩ := h
  refine ⟨?_, h2, h3, fun y hy e => ?_, fun y hy e => ?_⟩
  · split at h1
    · assumption
    · cases h1
  · have q := h4 y hy
    simp only [e] at q
    split at q <;> first | exact .inl (by assumption) | exact .inr (by assumption) | cases q
  · have q := h4 y hy
    rcases e with e | e <;> (simp only [e, Bool.or_eq_true, decide_eq_true_eq] at q; exact q)
end L2

namespace L2
open PySem PySem.Spec PyProof.Rows

section
variable {prog : Program} {w : World} {A : Around} {R : Result → Shared → Prop} {s : Shared} {elt t0 i0 t1 i1 : Expr} {ifs0 ifs1 : List Expr} {scope : Scope} {pos : Pos} {it acc : Value} {env : Env}
end

section
variable {X : Cx}
/-- [elt for tg in iter if .. for tg1 in iter1 if ..]: behind the first clause's store and tests the second source's own loop, from which Nx is reached. vs: the block's names; vs1: those of the second target -/
def tLc2 (wi : TI) (g : TG) (tt : TT) (wi1 : TI) (g1 : TG) (tt1 : TT) (te : TE) (vs vs1 : List Nat) : TE := fun σ H Q => wi σ H fun J H1 => ∀ D, H1 D = none → ∃ W : Nat → Nat → Hp → Prop, (∃ m, W 0 m (upd H1 D (.lst []))) ∧ ∀ i m H, W i m H →
  (J.stop i H ∧ Q (.ref D) H) ∨ (J.go i H ∧ ∃ Nx : Hp → Prop, (∀ H', Nx H' → ∃ m', m' < m ∧ W (i + 1) m' H') ∧ ∀ x H', J.yld i H x H' → g x (wipe σ vs) H' fun σ2 H2 => wipe σ2 vs = wipe σ vs ∧ tt σ2 H2 fun b H3 =>
    if b = true then wi1 σ2 H3 fun J1 H4 => ∃ W1 : Nat → Nat → Hp → Prop, (∃ m, W1 0 m H4) ∧ ∀ j k H, W1 j k H →
      (J1.stop j H ∧ Nx H) ∨ (J1.go j H ∧ ∃ Nx1 : Hp → Prop, (∀ H', Nx1 H' → ∃ k', k' < k ∧ W1 (j + 1) k' H') ∧ ∀ x H', J1.yld j H x H' → g1 x (wipe σ2 vs1) H' fun σ3 H5 => wipe σ3 vs1 = wipe σ2 vs1 ∧ tt1 σ3 H5 fun b H6 =>
        if b = true then te σ3 H6 fun y H7 => ∃ acc, H7 D = some (.lst acc) ∧ acc.length < sizeLine ∧ Nx1 (upd H7 D (.lst (acc ++ [y]))) else Nx1 H6)
    else Nx H3)
end
end L2

namespace L2
open PySem PySem.Spec PyProof.Rows

/-! ### lists of pairs as tables -/
section
variable {κ : Type} [DecidableEq κ]
def valV (kvs : List (κ × V)) (k : κ) : Option V := (kvs.find? fun kv => decide (kv.1 = k)).map (·.2)
/-- in its place, or at the end -/
def putK (kvs : List (κ × V)) (k : κ) (v : V) : List (κ × V) :=
  if (kvs.any fun kv => decide (kv.1 = k)) = true then kvs.map (fun kv => if kv.1 = k then (kv.1, v) else kv) else kvs ++ [(k, v)]
def dropK (kvs : List (κ × V)) (k : κ) : List (κ × V) := kvs.filter fun kv => decide (kv.1 ≠ k)

theorem valV_pos {p : κ × V} {r : List (κ × V)} {k : κ} (e : p.1 = k) : valV (p :: r) k = some p.2 := by simp [valV, List.find?_cons, e]
theorem valV_neg {p : κ × V} {r : List (κ × V)} {k : κ} (e : ¬ p.1 = k) : valV (p :: r) k = valV r k := by simp [valV, List.find?_cons, e]
theorem valV_any (k : κ) : ∀ kvs : List (κ × V), (kvs.any fun kv => decide (kv.1 = k)) = (valV kvs k).isSome
  | [] => rfl
  | p :: r => by
    rw [List.any_cons]
    by_cases e : p.1 = k
    · simp only [valV_pos e, decide_eq_true e, Bool.true_or, Option.isSome_some]
    · rw [valV_neg e, decide_eq_false e, Bool.false_or]; exact valV_any k r
theorem RelO.isSome_eq {o : Option V} {u : Option Value} (r : RelO o u) : o.isSome = u.isSome := by
  cases o with
  | none => cases u with
    | none => rfl
    | some _ => exact (show False from r).elim
  | some _ => cases u with
    | none => exact (show False from r).elim
    | some _ => rfl
theorem RelO.getD {o : Option V} {u : Option Value} {d : V} {d' : Value} (r : RelO o u) (rd : RelV d d') : RelV (o.getD d) (u.getD d') := by
  cases o with
  | none => cases u with
    | none => exact rd
    | some _ => exact (show False from r).elim
  | some _ => cases u with
    | none => exact (show False from r).elim
    | some _ => exact r

/-- raw tables of the same keys -/
theorem KV.val {kvs : List (κ × V)} {vs : List (κ × Value)} (r : KV kvs vs) (k : κ) : RelO (valV kvs k) (valueAt vs k) := by
  unfold KV at r
  induction r with
  | nil => exact True.intro
  | @cons p q ps qs h t ih =>
    obtain ⟨h1, h2⟩ := h
    by_cases e : p.1 = k
    · have e' : q.1 = k := h1.symm.trans e
      have b : valueAt (q :: qs) k = some q.2 := by simp [valueAt, List.find?_cons, e']
      rw [valV_pos e, b]; exact h2
    · have e' : ¬ q.1 = k := fun z => e (h1.trans z)
      have b : valueAt (q :: qs) k = valueAt qs k := by simp [valueAt, List.find?_cons, e']
      rw [valV_neg e, b]; exact ih
theorem KV.any {kvs : List (κ × V)} {vs : List (κ × Value)} (r : KV kvs vs) (k : κ) : (kvs.any fun kv => decide (kv.1 = k)) = vs.any fun kv => decide (kv.1 = k) := by
  unfold KV at r
  induction r with
  | nil => rfl
  | cons h t ih => rw [List.any_cons, List.any_cons, ih, h.1]
theorem KV.repl {kvs : List (κ × V)} {vs : List (κ × Value)} (r : KV kvs vs) (k : κ) {y : V} {u : Value} (ry : RelV y u) :
    KV (kvs.map fun kv => if kv.1 = k then (kv.1, y) else kv) (vs.map fun kv => if kv.1 = k then (kv.1, u) else kv) := by
  unfold KV at r ⊢
  induction r with
  | nil => exact .nil
  | @cons p q ps qs h t ih =>
    rw [List.map_cons, List.map_cons]
    refine .cons ?_ ih
    obtain ⟨h1, h2⟩ := h
    by_cases e : p.1 = k
    · rw [if_pos e, if_pos (h1.symm.trans e)]; exact ⟨h1, ry⟩
    · rw [if_neg e, if_neg (fun z => e (h1.trans z))]; exact ⟨h1, h2⟩
theorem KV.put {kvs : List (κ × V)} {vs : List (κ × Value)} (r : KV kvs vs) (k : κ) {y : V} {u : Value} (ry : RelV y u) : KV (putK kvs k y) (stored vs k u) := by
  unfold putK stored
  rw [r.any k]
  by_cases e : (vs.any fun kv => decide (kv.1 = k)) = true
  · rw [if_pos e, if_pos e]; exact r.repl k ry
  · rw [if_neg e, if_neg e]; exact Paired.snoc r ⟨rfl, ry⟩
theorem KV.drop {kvs : List (κ × V)} {vs : List (κ × Value)} (r : KV kvs vs) (k : κ) : KV (dropK kvs k) (without vs k) := by
  unfold KV at r ⊢
  unfold dropK without
  induction r with
  | nil => exact .nil
  | @cons p q ps qs h t ih =>
    obtain ⟨h1, h2⟩ := h
    rw [List.filter_cons, List.filter_cons]
    by_cases e : p.1 = k
    · have a : ¬ decide (p.1 ≠ k) = true := by simp [e]
      have b : ¬ decide (q.1 ≠ k) = true := by simp [h1.symm.trans e]
      rw [if_neg a, if_neg b]; exact ih
    · have e' : ¬ q.1 = k := fun z => e (h1.trans z)
      have a : decide (p.1 ≠ k) = true := by simp [e]
      have b : decide (q.1 ≠ k) = true := by simp [e']
      rw [if_pos a, if_pos b]; exact .cons ⟨h1, h2⟩ ih
theorem KV.keys {kvs : List (κ × V)} {vs : List (κ × Value)} (r : KV kvs vs) : kvs.map (·.1) = vs.map (·.1) := by
  unfold KV at r
  induction r with
  | nil => rfl
  | cons h t ih => rw [List.map_cons, List.map_cons, ih, h.1]
theorem KV.length {kvs : List (κ × V)} {vs : List (κ × Value)} (r : KV kvs vs) : kvs.length = vs.length := Paired.length r
end


/-! ### a tracked dict, its keys ints and texts or tuples of these -/
/-- raw entries of a dict with tuple keys -/
abbrev KT (H : Hp) : List (List Key × V) → List (List Key × Addr × Value) → Prop := Paired fun p q => p.1 = q.1 ∧ H q.2.1 = some (.tup (p.1.map kV)) ∧ RelV p.2 q.2.2
theorem KT.val {H : Hp} {kvs : List (List Key × V)} {xs : List (List Key × Addr × Value)} (r : KT H kvs xs) (k : List Key) : RelO (valV kvs k) ((atKey xs k).map (·.2)) := by
  induction r with
  | nil => exact True.intro
  | @cons p q ps qs h t ih =>
    obtain ⟨h1, _, h2⟩ := h
    by_cases e : p.1 = k
    · have e' : q.1 = k := h1.symm.trans e
      have b : atKey (q :: qs) k = some q.2 := by simp [atKey, List.find?_cons, e']
      rw [valV_pos e, b]; exact h2
    · have e' : ¬ q.1 = k := fun z => e (h1.trans z)
      have b : atKey (q :: qs) k = atKey qs k := by simp [atKey, List.find?_cons, e']
      rw [valV_neg e, b]; exact ih
theorem KT.repl {H : Hp} {kvs : List (List Key × V)} {xs : List (List Key × Addr × Value)} (r : KT H kvs xs) (k : List Key) {y : V} {u : Value} (ry : RelV y u) :
    KT H (kvs.map fun kv => if kv.1 = k then (kv.1, y) else kv) (xs.map (putAt k u)) := by
  induction r with
  | nil => exact .nil
  | @cons p q ps qs h t ih =>
    rw [List.map_cons, List.map_cons]
    refine .cons ?_ ih
    obtain ⟨h1, h2, h3⟩ := h
    unfold putAt
    by_cases e : p.1 = k
    · rw [if_pos e, if_pos (h1.symm.trans e)]; exact ⟨h1, h2, ry⟩
    · rw [if_neg e, if_neg (fun z => e (h1.trans z))]; exact ⟨h1, h2, h3⟩
theorem KT.put {H : Hp} {kvs : List (List Key × V)} {xs : List (List Key × Addr × Value)} (r : KT H kvs xs) (k : List Key) {b : Addr} {y : V} {u : Value} (hb : H b = some (.tup (k.map kV))) (ry : RelV y u) :
    KT H (putK kvs k y) (storedH xs k b u) := by
  have e : (kvs.any fun kv => decide (kv.1 = k)) = (atKey xs k).isSome := by
    rw [valV_any, (r.val k).isSome_eq, Option.isSome_map]
  unfold putK storedH
  rw [e]
  by_cases q : (atKey xs k).isSome = true
  · rw [if_pos q, if_pos q]; exact r.repl k ry
  · rw [if_neg q, if_neg q]; exact Paired.snoc r ⟨rfl, hb, ry⟩
theorem KT.keeps {H H' : Hp} {kvs : List (List Key × V)} {xs : List (List Key × Addr × Value)} (r : KT H kvs xs) (ht : ∀ b ys, H b = some (.tup ys) → H' b = some (.tup ys)) : KT H' kvs xs :=
  Paired.mapP r fun _ _ z => ⟨z.1, ht _ _ z.2.1, z.2.2⟩

section
variable {P : Program} {w : World} {H : Hp} {h : Heap} {a : Addr}
end

/-- what the dict at a holds at the key y -/
def DGet (H : Hp) (a : Addr) (y : V) (r : Option V) : Prop :=
  (∃ kvs k, Rd H a (.dK kvs) ∧ y = kV k ∧ r = valV kvs k) ∨ ∃ kvs k b, Rd H a (.dT kvs) ∧ y = .ref b ∧ H b = some (.tup (k.map kV)) ∧ r = valV kvs k
/-- the heap behind a[y] = v -/
def DPut (H : Hp) (a : Addr) (y v : V) (H' : Hp) : Prop :=
  (∃ kvs k, H a = some (.dK kvs) ∧ y = kV k ∧ kvs.length < sizeLine ∧ H' = upd H a (.dK (putK kvs k v))) ∨
  ∃ kvs k b, H a = some (.dT kvs) ∧ y = .ref b ∧ H b = some (.tup (k.map kV)) ∧ kvs.length < sizeLine ∧ H' = upd H a (.dT (putK kvs k v))
theorem DGet.k {H : Hp} {a : Addr} {kvs : List (Key × V)} {k : Key} (e : H a = some (.dK kvs)) : DGet H a (kV k) (valV kvs k) := .inl ⟨kvs, k, .inl e, rfl, rfl⟩
theorem DGet.t {H : Hp} {a b : Addr} {kvs : List (List Key × V)} {k : List Key} (e : H a = some (.dT kvs)) (eb : H b = some (.tup (k.map kV))) : DGet H a (.ref b) (valV kvs k) := .inr ⟨kvs, k, b, .inl e, rfl, eb, rfl⟩
theorem DPut.k {H : Hp} {a : Addr} {kvs : List (Key × V)} {k : Key} {v : V} (e : H a = some (.dK kvs)) (hl : kvs.length < sizeLine) : DPut H a (kV k) v (upd H a (.dK (putK kvs k v))) := .inl ⟨kvs, k, e, rfl, hl, rfl⟩
theorem DPut.t {H : Hp} {a b : Addr} {kvs : List (List Key × V)} {k : List Key} {v : V} (e : H a = some (.dT kvs)) (eb : H b = some (.tup (k.map kV))) (hl : kvs.length < sizeLine) :
    DPut H a (.ref b) v (upd H a (.dT (putK kvs k v))) := .inr ⟨kvs, k, b, e, rfl, eb, hl, rfl⟩


section
variable {X : Cx} {pins : List (Addr × Obj)} {σ : St} {H : Hp} {s : Shared} {a : Addr} {y v : V} {u r : Value} {o : Option V} {A : Around} {E : Value → Shared → Prop}

theorem Inv.big (I : Inv X pins σ H s) : sysModules < s.heap.objs.size := by
  have h : mainGlobals < s.heap.objs.size := (I.mod.glob.keeps I.bk).lt
  exact Nat.lt_trans (by decide) h

end

section
variable {X : Cx} {pins : List (Addr × Obj)} {σ : St} {H : Hp} {s : Shared} {a : Addr} {kvs : List (Key × V)} {k : Key} {u : Value} {A : Around} {E : Value → Shared → Prop}
end


/-! ### readings and rules -/
/-- the element of a subscription, not a slice -/
def NoSl (i : Expr) : Prop := ∀ ov iv, subscripted i false ov iv = operate [ov, iv] (getItem ov iv)
/-- d[y] -/
def tDGet (td ty : TE) : TE := fun σ H Q => td σ H fun x H1 => ty σ H1 fun y H2 => ∃ a v, x = .ref a ∧ DGet H2 a y (some v) ∧ Q v H2
/-- y in d, y not in d -/
def tDIn (ty td : TE) : TE := fun σ H Q => ty σ H fun y H1 => td σ H1 fun x H2 => ∃ a o, x = .ref a ∧ DGet H2 a y o ∧ Q (.bl o.isSome) H2
def tDNotIn (ty td : TE) : TE := fun σ H Q => ty σ H fun y H1 => td σ H1 fun x H2 => ∃ a o, x = .ref a ∧ DGet H2 a y o ∧ Q (.bl (!o.isSome)) H2
/-- d[y] = v -/
def sDPut (td ty tv : TE) : TS := fun D σ H => tv σ H fun v H1 => td σ H1 fun x H2 => ty σ H2 fun y H3 => ∃ a H4, x = .ref a ∧ DPut H3 a y v H4 ∧ D.nx σ H4
/-- d[y] op= v -/
def sDAug (td ty tv : TE) (rd : V → V → Hp → VK → Prop) : TS := fun D σ H => td σ H fun x H1 => ty σ H1 fun y H2 => ∃ a v, x = .ref a ∧ DGet H2 a y (some v) ∧
  tv σ H2 fun y2 H3 => rd v y2 H3 fun z H4 => ∃ H5, DPut H4 a y z H5 ∧ D.nx σ H5
/-- del d[y] -/
def sDDel (td ty : TE) : TS := fun D σ H => td σ H fun x H1 => ty σ H1 fun y H2 => ∃ a kvs k, x = .ref a ∧ H2 a = some (.dK kvs) ∧ y = kV k ∧ (valV kvs k).isSome = true ∧ D.nx σ (upd H2 a (.dK (dropK kvs k)))

section
variable {X : Cx} {o i e value : Expr} {pos pos' tpos : Pos} {td ty tv : TE}
end


/-! ### displays -/
/-- {}, to be a dict of the kind that is wanted -/
def tDNewK : TE := fun _ H Q => ∀ p, H p = none → Q (.ref p) (upd H p (.dK []))
def tDNewT : TE := fun _ H Q => ∀ p, H p = none → Q (.ref p) (upd H p (.dT []))
section
variable {X : Cx} {pos : Pos}
end

/-- the pairs of a display, from the left -/
def tPairs : List (TE × TE) → St → Hp → (List (V × V) → Hp → Prop) → Prop
  | [], _, H, Q => Q [] H
  | (tk, tv) :: r, σ, H, Q => tk σ H fun x H1 => tv σ H1 fun y H2 => tPairs r σ H2 fun ps H3 => Q ((x, y) :: ps) H3
abbrev VV : List (V × V) → List (Value × Value) → Prop := Paired fun p q => RelV p.1 q.1 ∧ RelV p.2 q.2
def PPs (X : Cx) (pos : Pos) (keys : List (Option Expr)) (values : List Expr) (trs : List (TE × TE)) : Prop :=
  ∀ (pins : List (Addr × Obj)) (s : Shared) (σ : St) (H : Hp) (Q : List (V × V) → Hp → Prop), Inv X pins σ H s → tPairs trs σ H Q →
    wpAny (model X.prog X.w) X.A (evalPairs (pairTrees keys values X.env pos)) (fun vs s' => ∃ ps H', Inv X pins σ H' s' ∧ VV ps vs ∧ Q ps H') X.xe s
def mergeK (kvs more : List (Key × V)) : List (Key × V) := more.foldl (fun acc kv => putK acc kv.1 kv.2) kvs
/-- {k: v, ..} with keys ints and texts; the new dict stands empty while the pairs are made -/
def tDisp (trs : List (TE × TE)) : TE := fun σ H Q => ∀ p, H p = none → tPairs trs σ (upd H p (.dK [])) fun ps H2 => H2 p = some (.dK []) ∧ ∃ kvs : List (Key × V), ps = kvs.map (fun kv => (kV kv.1, kv.2)) ∧ kvs.length ≤ 15 ∧ Q (.ref p) (upd H2 p (.dK (mergeK [] kvs)))
/-! ### methods -/
/-- a method call o.m(e) of a built-in, with one argument: what must be seen of the text -/
structure M1 (X : Cx) (o : Expr) (m : Str) (apos : Pos) (e : Expr) (cpos : Pos) : Prop where
  base : attributeBase o m X.env (eval o X.env) = eval o X.env
  few : ((backTo cpos (starEach [e] X.env)).all (fun x => !x.1) && (backToKw cpos (keywordEach [] X.env)).all (fun x => x.1.isSome)
    && decide (([e] : List Expr).length + ([] : List Keyword).length + (if ([] : List Keyword).isEmpty then 0 else 1) < 30)) = true
  line : (apos.endLine == cpos.line) = true
  trees : backTo cpos (starEach [e] X.env) = [(false, eval e X.env)]
structure M2 (X : Cx) (o : Expr) (m : Str) (apos : Pos) (e f : Expr) (cpos : Pos) : Prop where
  base : attributeBase o m X.env (eval o X.env) = eval o X.env
  few : ((backTo cpos (starEach [e, f] X.env)).all (fun x => !x.1) && (backToKw cpos (keywordEach [] X.env)).all (fun x => x.1.isSome)
    && decide (([e, f] : List Expr).length + ([] : List Keyword).length + (if ([] : List Keyword).isEmpty then 0 else 1) < 30)) = true
  line : (apos.endLine == cpos.line) = true
  trees : backTo cpos (starEach [e, f] X.env) = [(false, eval e X.env), (false, eval f X.env)]

/-- a is a dict, whatever its keys -/
def IsD (H : Hp) (a : Addr) : Prop := (∃ kvs, Rd H a (.dK kvs)) ∨ ∃ kvs, Rd H a (.dT kvs)
section
variable {X : Cx} {pins : List (Addr × Obj)} {σ : St} {H : Hp} {s : Shared} {a : Addr} {y d : V} {u r : Value} {o : Option V} {A : Around} {E : Value → Shared → Prop}
end

def tDGet1 (td ty : TE) : TE := fun σ H Q => td σ H fun x H1 => ∃ a, x = .ref a ∧ IsD H1 a ∧ ty σ H1 fun y H2 => ∃ o, DGet H2 a y o ∧ Q (o.getD .non) H2
def tDGet2 (td ty tx : TE) : TE := fun σ H Q => td σ H fun x H1 => ∃ a, x = .ref a ∧ IsD H1 a ∧ ty σ H1 fun y H2 => tx σ H2 fun z H3 => ∃ o, DGet H3 a y o ∧ Q (o.getD z) H3
/-- d.pop(k): there; d.pop(k, x): there or not -/
def tDPop1 (td ty : TE) : TE := fun σ H Q => td σ H fun x H1 => ∃ a, x = .ref a ∧ IsD H1 a ∧ ty σ H1 fun y H2 => ∃ kvs k v, H2 a = some (.dK kvs) ∧ y = kV k ∧ valV kvs k = some v ∧ Q v (upd H2 a (.dK (dropK kvs k)))
def tDPop2 (td ty tx : TE) : TE := fun σ H Q => td σ H fun x H1 => ∃ a, x = .ref a ∧ IsD H1 a ∧ ty σ H1 fun y H2 => tx σ H2 fun z H3 => ∃ kvs k, H3 a = some (.dK kvs) ∧ y = kV k ∧
  (∀ v, valV kvs k = some v → Q v (upd H3 a (.dK (dropK kvs k)))) ∧ (valV kvs k = none → Q z H3)
section
variable {X : Cx} {o e f : Expr} {apos cpos : Pos} {td ty tx : TE}
end

/-! ### dict(d): a copy -/
section
variable {X : Cx} {pins : List (Addr × Obj)} {σ : St} {H : Hp} {s : Shared} {a : Addr} {kvs : List (Key × V)} {A : Around} {E : Value → Shared → Prop}
end


section
variable {X : Cx} {pins : List (Addr × Obj)} {σ : St} {H : Hp} {s : Shared} {a : Addr} {y : V} {u : Value} {A : Around} {E : Value → Shared → Prop}
end
end L2

namespace L2
open PySem PySem.Spec PyProof.Rows

section
variable {prog : Program} {w : World} {A : Around} {E : Value → Shared → Prop}
end

section
variable {X : Cx}
end
end L2

namespace L2
open PySem PySem.Spec PyProof.Rows

section
variable {X : Cx} {pins : List (Addr × Obj)} {σ : St} {H : Hp} {s : Shared} {h' : Heap}
/-! ### locking a thing while a statement runs -/
end
/-- the statement runs while the thing at d is locked (read, not written); d and what stands there are the reading's choice -/
def tLock (t : TS) : TS := fun D σ H => ∃ d u, H d = some u ∧ Mut (some u) ∧ ∀ od, t ⟨fun σ' H' => H' d = some (.frz od u) ∧ D.nx σ' (upd H' d u), fun v H' => H' d = some (.frz od u) ∧ D.rt v (upd H' d u), fun σ' H' => H' d = some (.frz od u) ∧ D.bk σ' (upd H' d u), fun σ' H' => H' d = some (.frz od u) ∧ D.ct σ' (upd H' d u)⟩ σ (upd H d (.frz od u))
def tLockE (t : TE) : TE := fun σ H Q => ∃ d u, H d = some u ∧ Mut (some u) ∧ ∀ od, t σ (upd H d (.frz od u)) fun v H' => H' d = some (.frz od u) ∧ Q v (upd H' d u)
section
variable {X : Cx}
/-! ### one iterator just laid -/
end

/-! ### range with a step -/
/-- lo, lo + c, .. (n of them) -/
def Itc (lo c : Int) (n : Nat) : It := ⟨fun i _ => i < n, fun i H x H' => H' = H ∧ x = .int (lo + (i : Nat) * c), fun i _ => n ≤ i⟩
/-- range(i, j, c): small bounds, n items -/
def RgC (i j c : Int) (n : Nat) : Prop := c ≠ 0 ∧ c.natAbs < 1073741824 ∧ Builtin.Range.small i j c = true ∧ Builtin.Range.rangeSize i j c = n
theorem RgC.neg {i j : Int} (ha : -(2 ^ 62) ≤ i) (ha' : i < 2 ^ 62) (hb : -(2 ^ 62) ≤ j) (hb' : j < 2 ^ 62) : RgC i j (-1) (i - j).toNat :=
  ⟨by decide, by decide, PySem.W.small_down ha ha' hb hb', PySem.W.rangeSize_downNat i j⟩
def iRng3 (ta : TA) : TI := fun σ H R => ta σ H fun vs H1 => ∃ (i j c : Int) (n : Nat), vs = [.int i, .int j, .int c] ∧ RgC i j c n ∧ R (Itc i c n) H1
section
variable {X : Cx} {tg : Expr}
end
/-! ### reversed(list) -/
/-- the list at a (n items at the start, which the loop leaves there), from its end -/
def Itv (K : PySem.W.Frag) (a : Addr) (n : Nat) : It :=
  ⟨fun i H => i < n ∧ ∃ (xs : List V) (x : V), SqL K H a xs ∧ xs[n - 1 - i]? = some x, fun i H x H' => H' = H ∧ ∀ xs, SqL K H a xs → xs[n - 1 - i]? = some x, fun i _ => n ≤ i⟩
def iRev (K : PySem.W.Frag) (ta : TA) : TI := fun σ H R => ta σ H fun vs H1 => ∃ (a : Addr) (xs : List V), vs = [.ref a] ∧ SqL K H1 a xs ∧ R (Itv K a xs.length) H1
section
variable {X : Cx} {tg : Expr}
end

/-! ### a str -/
def Its (x : Str) : It := ⟨fun i _ => i < x.cps.size, fun i H v H' => H' = H ∧ ∃ c, x.cps[i]? = some c ∧ v = .str ⟨#[c]⟩, fun i _ => x.cps.size ≤ i⟩
def iStr (te : TE) : TI := fun σ H R => te σ H fun v H1 => ∃ x, v = .str x ∧ R (Its x) H1
/-! ### a dict's keys: any dict's entries -/
section
variable {prog : Program} {w : World} {A : Around} {E : Value → Shared → Prop} {s : Shared}
end

/-! ### a locked dict -/
section
variable {X : Cx} {pins : List (Addr × Obj)} {σ : St} {H : Hp} {s : Shared} {d : Addr} {o : Obj}
end

/-- the keys of the locked dict at d, in their order -/
def Itk (d : Addr) (o : Obj) (kvs : List (Key × V)) : It :=
  ⟨fun i H => H d = some (.frz o (.dK kvs)) ∧ i < kvs.length, fun i H x H' => H' = H ∧ ∃ k v, kvs[i]? = some (k, v) ∧ x = kV k, fun i H => H d = some (.frz o (.dK kvs)) ∧ kvs.length ≤ i⟩
/-- .. of tuple keys: the key's own tuple -/
def Itkt (d : Addr) (o : Obj) (kvs : List (List Key × V)) : It :=
  ⟨fun i H => H d = some (.frz o (.dT kvs)) ∧ i < kvs.length, fun i H x H' => H' = H ∧ ∃ (k : List Key) (v : V) (q : Addr), kvs[i]? = some (k, v) ∧ x = .ref q ∧ H q = some (.tup (k.map kV)), fun i H => H d = some (.frz o (.dT kvs)) ∧ kvs.length ≤ i⟩
/-- the values -/
def Itd (d : Addr) (o : Obj) (kvs : List (Key × V)) : It :=
  ⟨fun i H => H d = some (.frz o (.dK kvs)) ∧ i < kvs.length, fun i H x H' => H' = H ∧ ∃ k, kvs[i]? = some (k, x), fun i H => H d = some (.frz o (.dK kvs)) ∧ kvs.length ≤ i⟩
/-- the pairs, each a new tuple -/
def Iti (d : Addr) (o : Obj) (kvs : List (Key × V)) : It :=
  ⟨fun i H => H d = some (.frz o (.dK kvs)) ∧ i < kvs.length, fun i H x H' => ∃ T k v, kvs[i]? = some (k, v) ∧ x = .ref T ∧ H T = none ∧ H' = upd H T (.tup [kV k, v]), fun i H => H d = some (.frz o (.dK kvs)) ∧ kvs.length ≤ i⟩
section
variable {P : Program} {w : World} {K : PySem.W.Frag} {tg : Expr} {d : Addr} {o : Obj} {es : Array DictEntry} {ep : Nat}
end

/-! ### for k in d, d.keys(), d.values(), d.items() -/
/-- the dict is locked (tLock, or by the caller) -/
def iKeys (td : TE) : TI := fun σ H R => td σ H fun x H1 => ∃ d o, x = .ref d ∧ ((∃ kvs, H1 d = some (.frz o (.dK kvs)) ∧ R (Itk d o kvs) H1) ∨ ∃ kvs, H1 d = some (.frz o (.dT kvs)) ∧ R (Itkt d o kvs) H1)
def iVals (td : TE) : TI := fun σ H R => td σ H fun x H1 => ∃ d o kvs, x = .ref d ∧ H1 d = some (.frz o (.dK kvs)) ∧ R (Itd d o kvs) H1
def iItems (td : TE) : TI := fun σ H R => td σ H fun x H1 => ∃ d o kvs, x = .ref d ∧ H1 d = some (.frz o (.dK kvs)) ∧ R (Iti d o kvs) H1
def iKeysM (td : TE) : TI := fun σ H R => td σ H fun x H1 => ∃ d o kvs, x = .ref d ∧ H1 d = some (.frz o (.dK kvs)) ∧ R (Itk d o kvs) H1
section
variable {X : Cx} {tg e : Expr} {td : TE} {apos cpos : Pos}
end

/-! ### enumerate(list) -/
/-- the list at a as it stands at each turn, each item in a new pair -/
def Ite (K : PySem.W.Frag) (a : Addr) : It :=
  ⟨fun i H => ∃ (xs : List V) (x : V), SqL K H a xs ∧ xs[i]? = some x, fun i H v H' => ∃ T x, v = .ref T ∧ H T = none ∧ H' = upd H T (.tup [.int (i : Nat), x]) ∧ ∀ xs, SqL K H a xs → xs[i]? = some x, fun i H => ∃ xs : List V, SqL K H a xs ∧ xs.length ≤ i⟩
def iEnum (K : PySem.W.Frag) (ta : TA) : TI := fun σ H R => ta σ H fun vs H1 => ∃ a xs, vs = [.ref a] ∧ SqL K H1 a xs ∧ R (Ite K a) H1
/-! ### zip(list, list) -/
/-- the lists at a and b as they stand at each turn, the items in new pairs -/
def Itz (K : PySem.W.Frag) (a b : Addr) : It :=
  ⟨fun i H => ∃ (xs ys : List V) (x y : V), SqL K H a xs ∧ SqL K H b ys ∧ xs[i]? = some x ∧ ys[i]? = some y,
    fun i H v H' => ∃ T x y, v = .ref T ∧ H T = none ∧ H' = upd H T (.tup [x, y]) ∧ (∀ xs, SqL K H a xs → xs[i]? = some x) ∧ ∀ ys, SqL K H b ys → ys[i]? = some y,
    fun i H => ∃ xs ys : List V, SqL K H a xs ∧ SqL K H b ys ∧ (xs.length ≤ i ∨ ys.length ≤ i)⟩
def iZip (K : PySem.W.Frag) (ta : TA) : TI := fun σ H R => ta σ H fun vs H1 => ∃ a b xs ys, vs = [.ref a, .ref b] ∧ SqL K H1 a xs ∧ SqL K H1 b ys ∧ R (Itz K a b) H1
end L2

section 
namespace Bits
open PySem PyProof.Rows

end Bits
end 

section 
namespace TL
open PySem PySem.Builtin PySem.Builtin.Str PySem.StrLaws

abbrev tl (x : Str) : List Nat := x.cps.toList
/-! ### the list functions -/
/-- S stands at the head of l -/
def pre (S l : List Nat) : Bool := l.take S.length == S
/-- l cut at each S from the left; k signs are still to be passed over -/
def spl (S : List Nat) : Nat → List Nat → List Nat → List (List Nat)
  | _, acc, [] => [acc]
  | 0, acc, c :: r => if pre S (c :: r) = true then acc :: spl S (S.length - 1) [] r else spl S 0 (acc ++ [c]) r
  | k + 1, acc, _ :: r => spl S k acc r
/-- what stands before the first S, and behind it -/
def par (S : List Nat) : List Nat → List Nat → Option (List Nat × List Nat)
  | _, [] => none
  | acc, c :: r => if pre S (c :: r) = true then some (acc, (c :: r).drop S.length) else par S (acc ++ [c]) r

/-! ### the model's split and partition are these -/
/-! ### computing spl and par -/
/-- joined lists -/
def joinL (S : List Nat) : List (List Nat) → List Nat
  | [] => []
  | [p] => p
  | p :: q :: r => p ++ (S ++ joinL S (q :: r))
/-! ### digits -/
/-- the signs of a number -/
def numL (n : Nat) : List Nat := (Nat.toDigits 10 n).map Char.toNat
/-! ### words: x.split() -/
def wstep (st : List (List Nat) × List Nat) (c : Nat) : List (List Nat) × List Nat :=
  if Unicode.isSpace c = true then (if st.2 = [] then st else (st.1 ++ [st.2], [])) else (st.1, st.2 ++ [c])
def wfin (st : List (List Nat) × List Nat) : List (List Nat) := if st.2 = [] then st.1 else st.1 ++ [st.2]
end TL
end 

namespace L2
open PySem PySem.Spec PyProof.Rows

/-- a new list of texts, tracked -/
def rNewStrs (ys : List Str) : Hp → VK → Prop := fun H Q => ∀ p, H p = none → Q (.ref p) (upd H p (.lst (ys.map V.str)))

section
variable {X : Cx} {pins : List (Addr × Obj)} {σ : St} {H : Hp} {s : Shared} {Q : VK}
end

section
variable {X : Cx}

/-! ### of a text alone -/
/-! ### of a text and a text -/
end

section
variable {X : Cx} {o e : Expr} {to te : TE}
def tM0 (r : V → List V → Hp → VK → Prop) (to : TE) : TE := fun σ H Q => to σ H fun x H1 => (∃ a, x = .str a) ∧ r x [] H1 Q
def tM1 (r : V → List V → Hp → VK → Prop) (to te : TE) : TE := fun σ H Q => to σ H fun x H1 => (∃ a, x = .str a) ∧ te σ H1 fun y H2 => r x [y] H2 Q
end
end L2

namespace L2
open PySem PySem.Spec PyProof.Rows

section
variable {X : Cx}
end

/-! ### slices of a text -/
/-- a part, clipped, as the text's slice reckons it -/
def clipS (n d : Nat) : Option Int → Int
  | none => (d : Int)
  | some i => max 0 (min (if i < 0 then i + (n : Int) else i) (n : Int))
/-- z[lo:hi] -/
def cutS (z : Str) (lo hi : Option Int) : Str :=
  ⟨((z.cps.toList.drop (HT.sIx z.length 0 lo)).take (HT.sIx z.length z.length hi - HT.sIx z.length 0 lo)).toArray⟩
def rSlS : V → Option Int → Option Int → Hp → VK → Prop := fun x lo hi H Q => ∃ z, x = .str z ∧ z.length ≤ sizeLine ∧ Q (.str (cutS z lo hi)) H
end L2

namespace Att
open PySem PySem.W PySem.Calls PyProof.Rows

/-! ### the script -/
theorem ints_of_wellAll {P : Params} {h : Heap} : ∀ (ns : List Int) (vs : List Value), WellAll P h vs (ns.map WData.int) → IntsAre vs ns := by
  intro ns
  induction ns with
  | nil =>
    intro vs w
    rw [List.map_nil] at w
    cases w
    exact .nil
  | cons n ns ih =>
    intro vs w
    rw [List.map_cons] at w
    cases w with
    | cons a b =>
      cases a
      exact .cons _ _ (ih _ b)

theorem script_of {l : OpenLaw} {n : Nat} (hn : l.most = some n) {P : Params} {h : Heap} {args : List WData} {vals : List Value}
    (hpre : l.row.toRowW.claim.pre args = true) (hwl : WellAll P h vals args) :
    ∃ a vs ns, vals = [Value.ref a] ∧ args = [WData.list (ns.map WData.int)] ∧ h.get? a = some { cls := .type "list", data := .seq vs.toArray } ∧ IntsAre vs ns ∧ ns.length ≤ n := by
  have hsh : WShape.hasAll [] args [.list .int] = true := (pre_splitW hpre).1
  have hc : l.pre.holds [] { args := args } = true := (pre_splitW hpre).2
  obtain ⟨d, r, rfl, h1, h2⟩ := hasAllW_cons hsh
  obtain rfl := hasAllW_nil h2
  obtain ⟨xs, rfl, h3⟩ := hasW_list h1
  obtain ⟨ns, rfl⟩ := items_int h3
  have hlen : ns.length ≤ n := by
    unfold OpenLaw.pre at hc
    have h4 : (WTm.not (.lt (.lit (.int (n : Int))) (.len (.arg 0)))).holds [] { args := [.list (ns.map .int)] } = true := by
      have h4 := (holds_andW hc).1
      rw [hn] at h4
      exact h4
    have h5 := condW_of h4 (w_not (w_lt w_lit (w_len_list (w_arg rfl))))
    rw [List.length_map] at h5
    refine Nat.le_of_not_lt fun q => ?_
    have q' : (n : Int) < ((ns.length : Nat) : Int) := by omega
    first
      | (rw [decide_eq_true q'] at h5; exact absurd h5 (by decide))
      | (simp at h5; omega)
  cases hwl with
  | cons w1 w2 =>
    cases w2
    cases w1 with
    | list ho hall => exact ⟨_, _, ns, rfl, rfl, ho, ints_of_wellAll ns _ hall, hlen⟩

theorem post_true (l : OpenLaw) (args : List WData) : l.row.toRowW.claim.post args (.bool true) args = true :=
  postW_of (r := l.row.toRowW) (X := (true == true))
    (show WShape.has [] (.bool true) .bool = true by first | rfl | decide | simp [WShape.has, WShape.arms, WShape.armsAll])
    (show (WTm.eq .res (.lit (.bool true))).value [] { args := args, res := some (.bool true), after := args } = some (.bool (true == true)) from w_eq_bool (w_res rfl) w_lit) rfl

/-! ### the attachment: holds_open's last premise (the goal 'hc' behind k_head) from a wpAny of the law's body -/
/-- the same from a codeAny of the CALL (for a layer whose function contracts speak of calls) -/
theorem attach_call {l : OpenLaw} {n : Nat} {q : Program} {loose : List Str} {XP : (Str → Option Value) → Heap → Prop} {YP : World → Heap → Prop} {d : DefRec}
    (hn : l.most = some n) (hdf : d.params.defaults = [])
    (call : ∀ (w : World) (s₀ s₁ : Shared) (mg mb : Str → Option Value) (fa : Addr) (o : Obj) (pm cd doc : Value) (a : Addr) (vs : List Value) (ns : List Int),
      Ground q loose [] XP w s₀ mg mb s₁.heap → YP w s₁.heap →
      s₁.heap.get? fa = some o → o.data = .func (docDef d.name d.params d.body d.scope pm cd doc) → s₁.heap.CodeRec cd d.name → mg d.name = some (.ref fa) →
      s₁.heap.get? a = some { cls := .type "list", data := .seq vs.toArray } → IntsAre vs ns → ns.length ≤ n → s₁.gens = #[] →
      codeAny (model l.prog w) callerA (.call (.ref fa) ⟨[.ref a], []⟩) (fun r s' => r = .ok (.ret (.bool true)) ∧ OldK s₁.heap s'.heap ∧ s'.os = s₁.os ∧ AllBare s'.gens) s₁) :
    WalkO q loose XP YP l.row.toRowW d [] (fun f vs => PySem.call f vs) := by
  intro w s₀ s₁ mg mb G Y fa o pm cd doc dV kV ho hd hcd hD hmg hg args vals as hpre hlay hrd hwl hlo
  obtain rfl : dV = .none := Dflts.none hD hdf
  obtain rfl : kV = .none := Dflts.noKw hD
  obtain ⟨a, vs, ns, rfl, rfl, hobj, hints, hlen⟩ := script_of hn hpre hwl
  refine enter_call (codeAny_mono (call w s₀ s₁ mg mb fa o pm cd doc a vs ns G Y ho (fd_plain hd) hcd hmg hobj hints hlen hg) fun r s' hq => ?_)
  obtain ⟨rfl, h2, h3, h4⟩ := hq
  exact ⟨.inl ⟨.bool true, .bool true, [], rfl, fun _ => rfl, .bool true, post_true l _, fun _ => ⟨List.Pairwise.nil, fun _ hm => (nomatch hm)⟩⟩, h2, h3, h4⟩

/-! ### rules over ANY heap (no ledger) from facts about the written part K: the library's own take a ledger (News) for what they write -/
section
variable {prog : Program} {w : World} {A : Around} {E : Value → Shared → Prop} {s : Shared} {K : Frag}

/-! the whole heap as the ledger: makes every rule that writes through a ledger a rule over any heap -/
def noObjs (h : Heap) : Heap := { h with objs := #[] }
def ledger (h : Heap) (L d : Addr) : List (Addr × Obj) := (List.range h.objs.size).filterMap fun a => if a = L ∨ a = d then none else (h.get? a).map fun o => (a, o)
end
end Att

namespace L2
open PySem PySem.Spec PyProof.Rows

theorem vals_ints : ∀ {vs : List Value} {ns : List Int}, IntsAre vs ns → Vals (ns.map V.int) vs
  | _, _, .nil => .nil
  | _, _, .cons n t h => .cons ⟨t, rfl⟩ (vals_ints h)

/-- nothing is tracked but the script, known to the object (or it is an object of the module) -/
def Only (H : Hp) : Prop := ∀ b, H b = none ∨ ∃ o xs, H b = some (.frz o (.lst xs))

/-- THE HEAD: the law's promise, at the heap behind the top. F, the promise of the law's def, may use that base is part of the heap (so K.In base, base.Ns mainGlobals mg stand in Mod) -/
theorem law_call {P : Program} {w : World} {K : PySem.W.Frag} {mg mb : Str → Option Value} {CX : CXT} {k : Nat} {fa a : Addr} {fd : FuncData} {x : Str} {sp : Sp} {s₁ : Shared} {vs : List Value} {ns : List Int}
    (KX : K.In s₁.heap) (hns : s₁.heap.Ns mainGlobals mg) (hb : s₁.heap.Ns builtinsNs mb) (hbb : ∀ x : Str, x ≠ "__name__" → mb x = bootBuiltins x) (hlim : s₁.heap.NoLimit) (hg : s₁.gens = #[])
    (ha : s₁.heap.get? a = some { cls := .type "list", data := .seq vs.toArray }) (hi : IntsAre vs ns) (hl : ns.length ≤ sizeLine) (hr : Room k callerA)
    (F : ∀ base : Heap, K.In base → base.Ns mainGlobals mg → FnOk P w K mg base CX k fa fd [x] sp) (hbind : ∀ (s : Shared) (u : Value), BindsTo s fd ⟨[u], []⟩ [(x, u)])
    (hsp : ∀ H : Hp, Only H → SqL K H a (ns.map V.int) → sp [.ref a] H (fun v _ => v = .bl true) fun _ _ _ => False)
    (hCX : ∀ H e s', CX [] H s₁ (fun _ _ _ => False) e s' → False) :
    codeAny (model P w) callerA (.call (.ref fa) ⟨[.ref a], []⟩) (fun r s' => r = .ok (.ret (.bool true)) ∧ OldK s₁.heap s'.heap ∧ s'.os = s₁.os ∧ AllBare s'.gens) s₁ := by
  have rv := vals_ints hi
  have lenV := hi.length
  -- from an abstract heap in which nothing but the script may be tracked
  have core : ∀ H : Hp, Only H → SqL K H a (ns.map V.int) → HOk P w H s₁.heap → (∀ b, H b ≠ none → b = a) → (H a ≠ none → K.lookup a = none) →
      codeAny (model P w) callerA (.call (.ref fa) ⟨[.ref a], []⟩) (fun r s' => r = .ok (.ret (.bool true)) ∧ OldK s₁.heap s'.heap ∧ s'.os = s₁.os ∧ AllBare s'.gens) s₁ := by
    intro H hO hS hok hA hK
    have base_of : ∀ {b : Addr} {o : Obj}, s₁.heap.get? b = some o → H b = none → (hidT s₁.heap H).get? b = some o := fun e n => hidT_get e n
    have noA : ∀ {b : Addr} {o : Obj} {es : Array DictEntry} {ep : Nat}, s₁.heap.get? b = some o → o.data = .dict es ep → H b = none := fun {b o es ep} e d => by
      cases q : H b with
      | none => rfl
      | some u =>
        have e' : b = a := hA b (by rw [q]; simp)
        subst e'
        rw [ha] at e; cases e
        have d' : Data.seq vs.toArray _ = Data.dict es ep := d
        cases d'
    have nsK : ∀ {b : Addr} {m : Str → Option Value}, s₁.heap.Ns b m → (hidT s₁.heap H).Ns b m := fun {b m} ⟨o, es, ep, e, d, r⟩ => ⟨o, es, ep, base_of e (noA e d), d, r⟩
    have hKb : K.In (hidT s₁.heap H) := fun b o e => base_of (KX b o e) (by
      cases q : H b with
      | none => rfl
      | some u =>
        have e' : b = a := hA b (by rw [q]; simp)
        subst e'
        rw [hK (by rw [q]; simp)] at e; cases e)
    have hM : Mod K mg (hidT s₁.heap H) := ⟨hKb, nsK hns, ⟨mb, nsK hb, hbb⟩, let ⟨mc, h1, h2⟩ := hlim; ⟨mc, nsK h1, h2⟩⟩
    have e0 : Env0 P w K mg (hidT s₁.heap H) callerA [] s₁ H := ⟨rfl, hM, fun b o e => of_hidT e, Nat.le_of_eq (hidT_size _ _), trivial, fun b hb => absurd (show b ∈ ([] : List Addr) from hb) (by simp), hok, .of_eq hg⟩
    refine codeAny_mono ((F _ hKb (nsK hns)).run callerA [] s₁ H ⟨[.ref a], []⟩ [.ref a] [.ref a] _ _ hr e0 (hbind s₁ (.ref a)) (.cons rfl .nil) (hsp H hO hS)) fun r s' h => ?_
    cases r with
    | error e => exact (hCX H e s' h).elim
    | ok fl =>
      cases fl with
      | next => exact False.elim h
      | brk => exact False.elim h
      | cont => exact False.elim h
      | ret u =>
        obtain ⟨v, H', os, bare, un, hok', r', q⟩ := h
        have q' : v = .bl true := q
        subst q'
        obtain rfl : u = Value.bool true := r'
        refine ⟨rfl, OldK.of_keep fun b o e => ?_, os, bare⟩
        cases q : H b with
        | none => exact un.keep b o e q (by intro z; exact absurd (show b ∈ ([] : List Addr) from z) (by simp)) (by simp)
        | some u =>
          rcases hO b with z | ⟨ob, xs, z⟩
          · rw [q] at z; cases z
          · have z2 := un.frzs b ob _ z
            obtain ⟨e1, _⟩ := hok b _ z
            obtain ⟨e2, _⟩ := hok' b _ z2
            rw [e] at e1; cases e1
            exact e2
  cases hk : K.lookup a with
  | some o =>
    -- the script is one of the module's own objects
    have e := KX a o hk
    rw [ha] at e
    cases e
    refine core (fun _ => none) (fun _ => .inl rfl) (.inr ⟨_, vs.toArray, _, hk, rfl, rfl, rfl, by rw [List.size_toArray, lenV]; exact hl, by simpa using rv⟩) (fun b u z => by have z' : (none : Option HO) = some u := z; cases z') (fun b z => absurd rfl z) fun z => absurd rfl z
  | none =>
    refine core (fun b => if b = a then some (.frz { cls := .type "list", data := .seq vs.toArray } (.lst (ns.map V.int))) else none) (fun b => ?_) (.inl (.inr ⟨{ cls := .type "list", data := .seq vs.toArray }, if_pos rfl⟩)) (fun b u z => ?_) (fun b z => ?_) fun _ => hk
    · by_cases hb : b = a
      · exact .inr ⟨_, _, if_pos hb⟩
      · exact .inl (if_neg hb)
    · by_cases hb : b = a
      · have z' := (if_pos hb).symm.trans z
        cases z'
        subst hb
        exact ⟨ha, by rw [List.length_map]; exact hl, vs, _, rv, ha⟩
      · have z' := (if_neg hb).symm.trans z
        cases z'
    · by_cases hb : b = a
      · exact hb
      · exact absurd (if_neg hb) z
end L2

namespace L2
open PySem PySem.Spec PyProof.Rows

abbrev KOf {K : PySem.W.Frag} {h : Heap} (_ : K.In h) : PySem.W.Frag := K

/-- the goal that k_head leaves (case hc), from the law's promise. F gives the function object fd (K's own) once, then the promise over every base -/
theorem walk_of {l : PySem.W.OpenLaw} {n k : Nat} {q : Program} {loose : List Str} {XP : (Str → Option Value) → Heap → Prop} {YP : World → Heap → Prop} {d : DefRec} {K : Params → PySem.W.Frag} {CX : World → CXT} {sp : World → Sp} {x : Str}
    (hn : l.most = some n) (hn2 : n ≤ sizeLine) (hdf : d.params.defaults = []) (hr : Room k callerA)
    (hY : ∀ (w : World) (h : Heap), YP w h → (K w.params).In h)
    (F : ∀ (w : World) (mg : Str → Option Value) (fa : Addr) (h : Heap), (K w.params).In h → h.Ns mainGlobals mg → mg d.name = some (.ref fa) →
      ∃ fd : FuncData, (∀ (s : Shared) (u : Value), BindsTo s fd ⟨[u], []⟩ [(x, u)]) ∧
        ∀ base : Heap, (K w.params).In base → base.Ns mainGlobals mg → FnOk l.prog w (K w.params) mg base (CX w) k fa fd [x] (sp w))
    (hsp : ∀ (w : World) (H : Hp) (a : Addr) (ns : List Int), ns.length ≤ n → Only H → SqL (K w.params) H a (ns.map V.int) → sp w [.ref a] H (fun v _ => v = .bl true) fun _ _ _ => False)
    (hCX : ∀ (w : World) (H : Hp) (s : Shared) (e : Value) (s' : Shared), CX w [] H s (fun _ _ _ => False) e s' → False) :
    PySem.W.WalkO q loose XP YP l.row.toRowW d [] (fun f vs => PySem.call f vs) := by
  refine Att.attach_call hn hdf fun w s₀ s₁ mg mb fa o pm cd doc a vs ns G Y ho hd hcd hmg hobj hints hlen hg => ?_
  have KX := hY w _ Y
  obtain ⟨fd, hb, hF⟩ := F w mg fa _ KX G.T.g hmg
  exact law_call KX G.T.g G.T.b G.T.builtins G.T.nolimit hg hobj hints (Nat.le_trans hlen hn2) hr hF hb (fun H hO hS => hsp w H a ns hlen hO hS) fun H e s' => hCX w H s₁ e s'
end L2

/- THE LAST THEOREM (shape; LID, My.* are yours):
   My.Adr: a structure of the addresses that your layer names (classes, functions); My.Txt K t: a structure (Prop) of the equations over K;
   My.txt_mk : {K} {implicit addresses ..} (e1 : nsIn K mainGlobals "law" = some (some (.ref f))) (e2 : K.lookup f = some ⟨oc, od, .func (fnOf "law" "law" params body scope dV kV doc pm an cdv ct), sl⟩) (e3 : codeIn K cdv "law" = true) .. : ∃ t, My.Txt K t

set_option maxRecDepth 100000 in
set_option maxHeartbeats 0 in
theorem PySem.Challenge.cw_LID_holds : PySem.Challenge.rw_LID.Holds := by
  w_on; o_law; k_head; (case hw => w_witness2)
  k_fill
  refine L2.walk_of (l := PySem.Challenge.rw_LID) (n := 63) (k := 40) (x := "script") (CX := fun w => ..) (sp := fun _ => My.sp_law) rfl (by decide) rfl ⟨rfl, by decide, by decide⟩ (fun w h Y => PySem.W.kIn_of Y) ?F ?S ?C
  case F =>
    intro w mg fa h KX G hmg
    have T : ∃ t, My.Txt (L2.KOf KX) t := by
      dsimp only [L2.KOf]                          -- K must stand as «<heap const> w.params» for k_is
      refine' My.txt_mk ?e1 ?e2 ?e3 ..
      (case e1 => PySem.W.k_is)                    -- in the order: a name -> its address -> its object -> its parts
      (case e2 => PySem.W.k_is)
      ..
    obtain ⟨t, T⟩ := T
    have e0 := hmg.symm.trans (PySem.W.mg_of KX G T.law)
    cases e0                                       -- fa is the law's own address
    exact ⟨_, fun s u => .of_eq rfl, fun base kb nb => My.law_fn T kb nb⟩     -- if «.of_eq rfl» comes too early: refine' ⟨_, ?b, fun base kb nb => My.law_fn T kb nb⟩; exact fun s u => .of_eq rfl
  case S => exact fun w H a ns hl hO hS => ..
  case C => exact ..
(the tactic k_is has no namespace: write k_is) -/

/-! SHORT WORDS over the layer: a def of the text, its body, what a loop and a test want. -/
namespace L2
open PySem PySem.Spec PyProof.Rows

/-! ### the text by places -/
/-- the j-th statement of a class's body -/
def inClass (s : Stmt) (j : Nat) : Stmt := match s with
  | .ClassDef _ _ _ body _ _ _ _ _ _ _ => body.getD j (.Pass ⟨0, 0, 0, 0⟩)
  | _ => .Pass ⟨0, 0, 0, 0⟩
def defArgs (s : Stmt) : Arguments := match s with
  | .FunctionDef _ a _ _ _ _ _ _ _ _ => a
  | _ => { posonlyargs := [], args := [], vararg := none, kwonlyargs := [], kw_defaults := [], kwarg := none, defaults := [] }
def defBody (s : Stmt) : List Stmt := match s with
  | .FunctionDef _ _ b _ _ _ _ _ _ _ => b
  | _ => []
def defScope (s : Stmt) : Scope := match s with
  | .FunctionDef _ _ _ _ _ _ sc _ _ _ => sc
  | _ => { kind := .function, names := [], isGenerator := false, isCoroutine := false }

/-! ### no exception leaves a def -/
abbrev CX0 : CXT := fun _ _ _ _ _ _ => False
abbrev E0 : XK := fun _ _ _ => False
theorem pass0 {X : Cx} : Passes CX0 X E0 := fun _ _ _ _ _ _ _ h => h.elim

/-! ### a def (or method) of the text as it stands behind the top -/
structure Fun (K : PySem.W.Frag) (x qual : Str) (st : Stmt) (f : Addr) (fd : FuncData) : Prop where
  ex : ∃ (oc : Value) (od : Option Addr) (kV doc pm : Value) (an : Option Addr) (cdv ct : Value) (osl : Array (Option Value)),
    fd = PySem.W.fnOf x qual (defArgs st) (defBody st) (defScope st) .none kV doc pm an cdv ct ∧ K.lookup f = some ⟨oc, od, .func fd, osl⟩ ∧ PySem.W.codeIn K cdv qual = true
  kp : PySem.W.keepIn K (.ref f) = true
section
variable {P : Program} {w : World} {K : PySem.W.Frag} {mg : Str → Option Value} {base : Heap}
/-- THE RULE for a def: its body as a term of rules, and the reading of that term -/
theorem Fun.ok {x qual : Str} {st : Stmt} {f : Addr} {fd : FuncData} {N ps : List Str} {k : Nat} {sp : Sp} (F : Fun K x qual st f fd) (S : FnScope N ps (defScope st)) (len : ∀ vs H Q E, sp vs H Q E → vs.length = ps.length)
    (hbody : ∀ (cdv : Value) (A : Around) (outer : List Env) (s : Shared) (H : Hp) (vs : List V) (Q : VK) (E : XK), Room k (A.deeper (envOfC qual (defScope st) s.heap.objs.size f cdv)) → sp vs H Q E →
      ∃ t, PSs (cxOf CX0 P w K mg base N qual (defScope st) f cdv A outer s H E).nox (defBody st) t ∧ t { nx := fun _ H' => Q .non H', rt := Q } (start N vs) H) : FnOk P w K mg base CX0 (k + 1) f fd ps sp := by
  obtain ⟨oc, od, kV, doc, pm, an, cdv, ct, osl, rfl, lk, hcd⟩ := F.ex
  refine fn_of lk hcd S len fun A outer s H vs Q E hr hsp => ?_
  obtain ⟨t, h, q⟩ := hbody cdv A outer s H vs Q E hr hsp
  exact ⟨t, h.nox, q⟩
/-- how its arguments bind (no defaults): h is «fun _ _ _ _ _ _ us hl => match us, hl with | [_, _], _ => rfl», one _ a parameter -/
theorem Fun.binds {x qual : Str} {st : Stmt} {f : Addr} {fd : FuncData} {ps : List Str} (F : Fun K x qual st f fd)
    (h : ∀ (kV doc pm : Value) (an : Option Addr) (cdv ct : Value) (us : List Value), us.length = ps.length → bindArgs (PySem.W.fnOf x qual (defArgs st) (defBody st) (defScope st) .none kV doc pm an cdv ct) ⟨us, []⟩ = pure (ps.zip us)) : Binds K fd ps [] := by
  obtain ⟨oc, od, kV, doc, pm, an, cdv, ct, osl, rfl, lk, hcd⟩ := F.ex
  exact .all (h kV doc pm an cdv ct)
theorem fun_mk {x qual : Str} {st : Stmt} {f : Addr} {oc : Value} {od an : Option Addr} {osl : Array (Option Value)} {kV doc pm cdv ct : Value} (l : K.lookup f = some ⟨oc, od, .func (PySem.W.fnOf x qual (defArgs st) (defBody st) (defScope st) .none kV doc pm an cdv ct), osl⟩)
    (c : PySem.W.codeIn K cdv qual = true) (k : PySem.W.keepIn K (.ref f) = true) : Fun K x qual st f (PySem.W.fnOf x qual (defArgs st) (defBody st) (defScope st) .none kV doc pm an cdv ct) := ⟨⟨oc, od, kV, doc, pm, an, cdv, ct, osl, rfl, l, c⟩, k⟩
end
/-! ### expressions in short: the name that stands in the i-th slot -/
section
variable {X : Cx}
theorem pv (i : Nat) {x : Str} {pos : Pos} (hN : X.N[i]? = some x := by rfl) (hv : Vis X.env.scope x := by first | exact Or.inl rfl | exact Or.inr (Or.inl rfl) | exact Or.inr (Or.inr rfl)) (hd : (x == ("__debug__" : Str)) = false := by decide)
    (hcd : (x == ("__classdict__" : Str)) = false := by decide) : PE X (.Name x pos) (tVar i) := pe_var hN hv hd hcd
end

/-! ### tests -/
theorem iteF {A B : Prop} (h : B) : if false = true then A else B := by
  rw [if_neg Bool.false_ne_true]
  exact h
theorem iteT {A B : Prop} (h : A) : if true = true then A else B := by
  rw [if_pos rfl]
  exact h
theorem ite2 {c A B : Prop} [Decidable c] (h1 : c → A) (h2 : ¬ c → B) : if c then A else B := by
  by_cases h : c
  · rw [if_pos h]
    exact h1 h
  · rw [if_neg h]
    exact h2 h
/-! ### heaps -/
/-- all that was tracked is as it was -/
def Same (H H' : Hp) : Prop := ∀ b o, H b = some o → H' b = some o
theorem Same.refl (H : Hp) : Same H H := fun _ _ h => h
theorem Same.trans {H H1 H2 : Hp} (a : Same H H1) (b : Same H1 H2) : Same H H2 := fun c o h => b c o (a c o h)
theorem Same.free {H H' : Hp} (e : Same H H') {l : Addr} (h : H' l = Option.none) : H l = Option.none := by
  cases q : H l with
  | none => rfl
  | some o =>
    rw [e l o q] at h
    cases h
theorem Same.seq {K : PySem.W.Frag} {H H' : Hp} {a : Addr} {xs : List V} (e : Same H H') (h : SqL K H a xs) : SqL K H' a xs := by
  rcases h with (h | ⟨o, h⟩) | h
  · exact .inl (.inl (e _ _ h))
  · exact .inl (.inr ⟨o, e _ _ h⟩)
  · exact .inr h

/-! ### a dict's pairs: keys that differ -/
section
variable {κ : Type} [DecidableEq κ]
end
/-! ### lists -/
/-- a new instance and its __init__ leave all that was tracked as it was -/
theorem Same.made {H H1 : Hp} {x dx C : Addr} (nx : H x = Option.none) (nd : H dx = Option.none) (k : ∀ b o, (upd (upd H dx (.own x)) x (.ins C dx [])) b = some o → b ≠ x → H1 b = some o) : Same H H1 := fun b o e =>
  k b o (by rw [upd_ne (ne_of_none e nx), upd_ne (ne_of_none e nd)]; exact e) (ne_of_none e nx)
end L2

end
section
set_option Elab.async false
set_option linter.all false
set_option maxRecDepth 100000
namespace PySem.W
open PySem PySem.Spec PySem.Calls PyProof.Rows
section
variable {prog : Program} {w : World} {A : Around} {E : Value → Shared → Prop} {s : Shared}
/-! ### the next item of a tuple, as zip asks for it -/
/-! ### zip of two tuples -/
end
def itO (t : Addr) : Obj := { cls := .type "tuple_iterator", data := .fields #[.ref t, .int 0 0] }
def zh1 (h : Heap) (a : Addr) : Heap := h.push (itO a)
def zh2 (h : Heap) (a b : Addr) : Heap := (zh1 h a).push (itO b)
def zh3 (h : Heap) (a b : Addr) : Heap := (zh2 h a b).push { cls := .type "tuple", data := .seq #[.ref h.objs.size, .ref (zh1 h a).objs.size] }
def zh4 (h : Heap) (a b : Addr) : Heap := (zh3 h a b).push { cls := .type "tuple", data := .seq #[.none, .none] }
def zh5 (h : Heap) (a b : Addr) : Heap := (zh4 h a b).push { cls := .type "zip", data := .fields #[.none, .bool false, .bool false, .ref (zh2 h a b).objs.size, .ref (zh3 h a b).objs.size] }
section
variable {prog : Program} {w : World} {A : Around} {E : Value → Shared → Prop} {s : Shared}
end
end PySem.W

end
section
set_option Elab.async false
set_option linter.all false
set_option maxRecDepth 100000
namespace L2
open PySem PySem.Spec PyProof.Rows
section
variable {X : Cx}
/-- x in a list or tuple of data -/
def rInD (K : PySem.W.Frag) (neg : Bool) : R2 := fun x y H Q => ∃ d xs, Dp K H x d ∧ (Dp K H y (.tuple xs) ∨ Dp K H y (.list xs)) ∧ d.canLay0 = true ∧ PyData.canLayAll0 xs = true ∧ d.depth ≤ 60 ∧ Q (.bl (if neg then !(xs.any fun e => PyData.eqv e d) else xs.any fun e => PyData.eqv e d)) H
theorem op_inD (hu : X.A.units + 64 < cLine) : OpR X (compareOp .In) (rInD X.K false) := by
  intro pins s σ H x y v u Q I rx ry h
  obtain ⟨d, xs, hd, he, c1, c2, dp, q⟩ := h
  obtain ⟨as, r1⟩ := Dp.reads I d x v hd rx
  have hm : X.A.units + 1 + min (PyData.depthAll xs) d.depth < cLine := by
    have := Nat.min_le_right (PyData.depthAll xs) d.depth
    omega
  rcases he with he | he
  · obtain ⟨bs, r2⟩ := Dp.reads I _ y u he ry
    exact SeqAt.in_tuple_reads r2 r1 c2 c1 hm ⟨.bl _, H, I, rfl, q⟩
  · obtain ⟨bs, r2⟩ := Dp.reads I _ y u he ry
    exact SeqAt.in_list_reads r2 r1 c2 c1 hm ⟨.bl _, H, I, rfl, q⟩
theorem op_notInD (hu : X.A.units + 64 < cLine) : OpR X (compareOp .NotIn) (rInD X.K true) := by
  intro pins s σ H x y v u Q I rx ry h
  obtain ⟨d, xs, hd, he, c1, c2, dp, q⟩ := h
  obtain ⟨as, r1⟩ := Dp.reads I d x v hd rx
  have hm : X.A.units + 1 + min (PyData.depthAll xs) d.depth < cLine := by
    have := Nat.min_le_right (PyData.depthAll xs) d.depth
    omega
  rcases he with he | he
  · obtain ⟨bs, r2⟩ := Dp.reads I _ y u he ry
    exact SeqAt.notIn_tuple_reads r2 r1 c2 c1 hm ⟨.bl _, H, I, rfl, q⟩
  · obtain ⟨bs, r2⟩ := Dp.reads I _ y u he ry
    exact SeqAt.notIn_list_reads r2 r1 c2 c1 hm ⟨.bl _, H, I, rfl, q⟩
/-- repr of a list or tuple of data -/
def rRepr (K : PySem.W.Frag) : List V → Hp → VK → Prop := fun vs H Q => ∃ a d, vs = [.ref a] ∧ Dp K H (.ref a) d ∧ d.showable = true ∧ d.hasDict = false ∧ d.depth ≤ 60 ∧ d.shown.length ≤ sizeLine ∧ Q (.str d.shown) H
/-- a list's item by place, as a value (for o[i] op= e) -/
def rGetL (K : PySem.W.Frag) : V → V → Hp → VK → Prop := fun x y H Q => ∃ p xs i v, x = .ref p ∧ y = .int i ∧ 0 ≤ i ∧ SqL K H p xs ∧ xs[i.toNat]? = some v ∧ Q v H
end
/-! ### heaps once more -/
theorem Same.upd {H H1 : Hp} {p : Addr} {o : HO} (s : Same H H1) (hp : H1 p = none) : Same H (upd H1 p o) := fun b u e => by
  have e1 := s b u e
  rw [upd_ne (ne_of_none e1 hp)]
  exact e1
theorem same_upd {H : Hp} {p : Addr} {o : HO} (hp : H p = none) : Same H (L2.upd H p o) := (Same.refl H).upd hp
/-- a thing that was not there ahead may be written -/
theorem Same.updN {H H1 : Hp} {p : Addr} {o : HO} (s : Same H H1) (hp : H p = none) : Same H (L2.upd H1 p o) := fun b u e => by
  have e1 := s b u e
  rw [upd_ne (ne_of_none e hp)]
  exact e1
theorem Same.rd {H H' : Hp} {a : Addr} {u : HO} (e : Same H H') (h : Rd H a u) : Rd H' a u := by
  rcases h with h | ⟨o, h⟩
  · exact .inl (e _ _ h)
  · exact .inr ⟨o, e _ _ h⟩
theorem Same.sqT {K : PySem.W.Frag} {H H' : Hp} {a : Addr} {xs : List V} (e : Same H H') (h : SqT K H a xs) : SqT K H' a xs := by
  rcases h with h | h
  · exact .inl (e.rd h)
  · exact .inr h
/-- all but one -/
def SameBut (p : Addr) (H H' : Hp) : Prop := ∀ b o, H b = some o → b ≠ p → H' b = some o
theorem SameBut.refl (p : Addr) (H : Hp) : SameBut p H H := fun _ _ h _ => h
theorem SameBut.trans {p : Addr} {H H1 H2 : Hp} (a : SameBut p H H1) (b : SameBut p H1 H2) : SameBut p H H2 := fun c o h n => b c o (a c o h n) n
theorem Same.but {p : Addr} {H H' : Hp} (a : Same H H') : SameBut p H H' := fun c o h _ => a c o h
theorem SameBut.upd {p : Addr} {H H' : Hp} {o : HO} (a : SameBut p H H') : SameBut p H (L2.upd H' p o) := fun c u h n => by
  rw [upd_ne n]; exact a c u h n
theorem SameBut.same {p : Addr} {H H' H0 : Hp} (s0 : Same H0 H) (hp : H0 p = none) (a : SameBut p H H') : Same H0 H' := fun b o e => a b o (s0 b o e) (ne_of_none e hp)
theorem SameBut.fresh {p q : Addr} {H H' : Hp} {o : HO} (a : SameBut p H H') (hq : H' q = none) : SameBut p H (L2.upd H' q o) := fun c u h n => by
  have e := a c u h n
  rw [upd_ne (ne_of_none e hq)]; exact e
/-- a thing made behind H -/
theorem SameBut.freshN {p q : Addr} {H H' : Hp} {o : HO} (a : SameBut p H H') (hq : H q = none) : SameBut p H (L2.upd H' q o) := fun c u h n => by
  have e := a c u h n
  rw [upd_ne (ne_of_none h hq)]; exact e
end L2

end
section
set_option Elab.async false
set_option linter.all false
set_option maxRecDepth 100000
namespace L2
open PySem PySem.Spec PyProof.Rows
/-! ### zip of two tuples -/
/-- the tuples at a and b as they stand at each turn, the items in new pairs -/
def ItzT (K : PySem.W.Frag) (a b : Addr) : It :=
  ⟨fun i H => ∃ (xs ys : List V) (x y : V), SqT K H a xs ∧ SqT K H b ys ∧ xs[i]? = some x ∧ ys[i]? = some y,
    fun i H v H' => ∃ T x y, v = .ref T ∧ H T = none ∧ H' = upd H T (.tup [x, y]) ∧ (∀ xs, SqT K H a xs → xs[i]? = some x) ∧ ∀ ys, SqT K H b ys → ys[i]? = some y,
    fun i H => ∃ xs ys : List V, SqT K H a xs ∧ SqT K H b ys ∧ (xs.length ≤ i ∨ ys.length ≤ i)⟩
def iZipT (K : PySem.W.Frag) (ta : TA) : TI := fun σ H R => ta σ H fun vs H1 => ∃ a b xs ys, vs = [.ref a, .ref b] ∧ SqT K H1 a xs ∧ SqT K H1 b ys ∧ R (ItzT K a b) H1
/-! ### slices of tuples -/
end L2
namespace HT
open PySem PySem.Spec PyProof.Rows
section
variable {prog : Program} {w : World} {A : Around} {E : Value → Shared → Prop} {s : Shared}
end
end HT
namespace L2
open PySem PySem.Spec PyProof.Rows
section
variable {X : Cx}
/-- t[lo:hi]: where it is the whole, t itself -/
def Whole (n : Nat) (lo hi : Option Int) : Prop := HT.sIx n 0 lo = 0 ∧ HT.sIx n n hi = n
def rSlA (K : PySem.W.Frag) : V → Option Int → Option Int → Hp → VK → Prop := fun x lo hi H Q => ∃ a xs, x = .ref a ∧ SqT K H a xs ∧
  (Whole xs.length lo hi → Q (.ref a) H) ∧ (¬ Whole xs.length lo hi → ∀ p, H p = none → Q (.ref p) (upd H p (.tup (cutV xs lo hi))))
/-- t[::-1] of a tuple -/
def tRevT (K : PySem.W.Frag) (te : TE) (ts : TO) : TE := fun σ H Q => te σ H fun x H1 => ts σ H1 fun k H2 => k = some (-1) ∧ ∃ a xs, x = .ref a ∧ SqT K H2 a xs ∧ ∀ p, H2 p = none → Q (.ref p) (upd H2 p (.tup xs.reverse))
end
end L2

end
section
set_option Elab.async false
set_option linter.all false
set_option maxRecDepth 100000
namespace PySem.W
open PySem PySem.Spec PySem.Calls PyProof.Rows
section
variable {prog : Program} {w : World} {A : Around} {R : Result → Shared → Prop} {I : Addr} {fp wr : List Addr} {n : Nat} {P : Nat → Value → Prop} {St : Nat → Heap → Prop}
/-- one thing below another, where the heap keeps what it must -/
def LtIn (prog : Program) (w : World) (A : Around) (Kp : Heap → Prop) (P : Nat → Value → Prop) (bt : Nat → Nat → Bool) : Prop :=
  ∀ i j vi vj (s : Shared) (Q : Value → Shared → Prop) (E : Value → Shared → Prop), Kp s.heap → P i vi → P j vj → Q (.bool (bt i j)) s → wpAny (model prog w) A (richCompare .Lt vi vj) Q E s
end
section
variable {prog : Program} {w : World} {A : Around} {E : Value → Shared → Prop} {s : Shared}
end
end PySem.W
namespace L2
open PySem PySem.Spec PyProof.Rows
section
variable {X : Cx}
/-- f(e, .., k=v): a built-in function with keywords, by values -/
def CallRK (X : Cx) (f : Value) (ks : List Str) (r : List V → List V → Hp → VK → Prop) : Prop :=
  ∀ (pins : List (Addr × Obj)) (s : Shared) (σ : St) (H : Hp) (xs zs : List V) (us ws : List Value) (Q : VK), Inv X pins σ H s → Vals xs us → Vals zs ws → r xs zs H Q →
    wpAny (model X.prog X.w) X.A (call f us (ks.zip ws)) (EP X pins σ Q) X.xe s
def tCBK (r : List V → List V → Hp → VK → Prop) (t tk : TA) : TE := fun σ H Q => t σ H fun vs H1 => tk σ H1 fun zs H2 => r vs zs H2 Q
/-- tuples of ints, one behind another -/
def TupsAt (K : PySem.W.Frag) (H : Hp) : List V → List (List Int) → Prop := Paired fun v ns => ∃ t, v = .ref t ∧ SqT K H t (ns.map V.int)
def rMinD (K : PySem.W.Frag) : List V → List V → Hp → VK → Prop := fun vs zs H Q => ∃ (l : Addr) (xs : List V) (nss : List (List Int)) (d : V), vs = [.ref l] ∧ zs = [d] ∧ SqL K H l xs ∧ TupsAt K H xs nss ∧ 0 < nss.length ∧
  ∀ (i : Nat) (v : V), xs[i]? = some v → (∀ j, j < nss.length → HT.lexLt (nss.getD j []) (nss.getD i []) = false) → Q v H
theorem TupsAt.get {K : PySem.W.Frag} {H : Hp} : ∀ {xs : List V} {nss : List (List Int)} {i : Nat} {x : V}, TupsAt K H xs nss → xs[i]? = some x → ∃ t, x = .ref t ∧ nss[i]? = some (nss.getD i []) ∧ SqT K H t ((nss.getD i []).map V.int)
  | _, _, _, _, .nil, e => by simp at e
  | _, _, 0, _, .cons ⟨a, r, h⟩ _, e => by simp at e; subst e; exact ⟨a, r, by simp, by simpa using h⟩
  | _, _, i + 1, x, .cons _ t, e => by
    obtain ⟨a, h1, h2, h3⟩ := TupsAt.get (i := i) (x := x) t (by simpa using e)
    exact ⟨a, h1, by simpa using h2, by simpa using h3⟩
end
end L2

end
section
set_option Elab.async false
set_option linter.all false
set_option maxRecDepth 100000
namespace PySem.W
open PySem PySem.Spec PySem.Calls PyProof.Rows
section
variable {prog : Program} {w : World} {A : Around} {E : Value → Shared → Prop} {s : Shared}
end
end PySem.W
namespace L2
open PySem PySem.Spec PyProof.Rows
section
variable {X : Cx}
/-- list(reversed(xs)) -/
def tListRev (K : PySem.W.Frag) (t : TA) : TE := fun σ H Q => t σ H fun vs H1 => ∃ l xs, vs = [.ref l] ∧ SqL K H1 l xs ∧ ∀ q, H1 q = none → Q (.ref q) (upd H1 q (.lst xs.reverse))
end
end L2
namespace L2
open PySem PySem.Spec PyProof.Rows
section
variable {X : Cx}
/-- list(range(n)) -/
def tListRng (t : TA) : TE := fun σ H Q => t σ H fun vs H1 => ∃ n : Nat, vs = [.int n] ∧ n ≤ 100000 ∧ ∀ q, H1 q = none → Q (.ref q) (upd H1 q (.lst ((List.range n).map fun (i : Nat) => V.int i)))
end
end L2
namespace PySem.W
open PySem PySem.Spec PySem.Calls PyProof.Rows
section
variable {prog : Program} {w : World} {A : Around} {E : Value → Shared → Prop} {s : Shared}
end
end PySem.W
namespace L2
open PySem PySem.Spec PyProof.Rows
section
variable {X : Cx}
def rMinT (K : PySem.W.Frag) : List V → Hp → VK → Prop := fun vs H Q => ∃ (a : Addr) (ns : List Int), vs = [V.ref a] ∧ SqT K H a (ns.map V.int) ∧ 0 < ns.length ∧ ∀ m, m ∈ ns → (∀ y, y ∈ ns → m ≤ y) → Q (.int m) H
def rSortedT (K : PySem.W.Frag) : List V → Hp → VK → Prop := fun vs H Q => ∃ (a : Addr) (ns : List Int), vs = [V.ref a] ∧ SqT K H a (ns.map V.int) ∧ ns.length < 64 ∧
  ∀ (ns' : List Int) (p : Addr), ns'.Perm ns → ns'.Pairwise (· ≤ ·) → H p = none → Q (.ref p) (upd H p (.lst (ns'.map V.int)))
end
end L2

end
section
set_option Elab.async false
set_option linter.all false
set_option maxRecDepth 100000
namespace PySem.W
open PySem PySem.Spec PySem.Calls PyProof.Rows
/-! ### reversed(a tuple): what the table says -/
def trevO (t : Addr) (i : Int) : Obj := { cls := .type "reversed", data := .fields #[.ref t, rawInt i] }
def IsTRev (h : Heap) (a t : Addr) (i : Int) : Prop := ∃ o, h.get? a = some o ∧ o.cls = .type "reversed" ∧ o.data = .fields #[.ref t, rawInt i]
theorem IsTRev.typeIs {s : Shared} {a t : Addr} {i : Int} (x : IsTRev s.heap a t i) : s.TypeIs (.ref a) "reversed" := let ⟨o, ho, hc, _⟩ := x; ⟨o, ho, hc⟩
theorem IsTRev.at {h h' : Heap} {a t : Addr} {i : Int} (x : IsTRev h a t i) (e : ∀ o, h.get? a = some o → h'.get? a = some o) : IsTRev h' a t i := let ⟨o, ho, r⟩ := x; ⟨o, e _ ho, r⟩
section
variable {prog : Program} {w : World} {A : Around} {E : Value → Shared → Prop} {s : Shared}
end
end PySem.W
namespace PySem.W
open PySem PySem.Spec PySem.Calls PyProof.Rows
section
variable {prog : Program} {w : World} {A : Around} {E : Value → Shared → Prop} {s : Shared}
end
end PySem.W
namespace L2
open PySem PySem.Spec PyProof.Rows
section
variable {X : Cx}
/-- tuple(reversed(t)), t a tuple -/
def tTupRev (K : PySem.W.Frag) (t : TA) : TE := fun σ H Q => t σ H fun vs H1 => ∃ a xs, vs = [.ref a] ∧ SqT K H1 a xs ∧ ∀ q, H1 q = none → Q (.ref q) (upd H1 q (.tup xs.reverse))
end
end L2

end
section
set_option linter.all false
namespace Wb
abbrev Pr := Int × Int
def lt2 (p q : Pr) : Prop := p.1 < q.1 ∨ (p.1 = q.1 ∧ p.2 < q.2)
/-- ties of a web of n places, rising -/
structure Good (n : Int) (ps : List Pr) : Prop where
  up : ps.Pairwise lt2
  lo : ∀ p ∈ ps, 0 ≤ p.1 ∧ p.1 < p.2 ∧ p.2 < n
/-- .. all of them ahead of (a, b) -/
structure Upto (n a b : Int) (ps : List Pr) : Prop where
  good : Good n ps
  lt : ∀ p ∈ ps, lt2 p (a, b)
theorem Upto.nil {n a b : Int} : Upto n a b [] := ⟨⟨List.Pairwise.nil, fun p h => by cases h⟩, fun p h => by cases h⟩
theorem Upto.skip {n a b : Int} {ps : List Pr} (h : Upto n a b ps) : Upto n a (b + 1) ps :=
  ⟨h.good, fun p hp => by rcases h.lt p hp with q | ⟨q1, q2⟩; exact .inl q; exact .inr ⟨q1, by show p.2 < b + 1; have : p.2 < b := q2; omega⟩⟩
theorem Upto.put {n a b : Int} {ps : List Pr} (h : Upto n a b ps) (h0 : 0 ≤ a) (h1 : a < b) (h2 : b < n) : Upto n a (b + 1) (ps ++ [(a, b)]) := by
  refine ⟨⟨List.pairwise_append.mpr ⟨h.good.up, List.pairwise_singleton _ _, fun x hx y hy => ?_⟩, fun p hp => ?_⟩, fun p hp => ?_⟩
  · cases List.mem_singleton.mp hy; exact h.lt x hx
  · rcases List.mem_append.mp hp with hp | hp
    · exact h.good.lo p hp
    · cases List.mem_singleton.mp hp; exact ⟨h0, h1, h2⟩
  · rcases List.mem_append.mp hp with hp | hp
    · exact h.skip.lt p hp
    · cases List.mem_singleton.mp hp; exact .inr ⟨rfl, by show b < b + 1; omega⟩
theorem Upto.row {n a b : Int} {ps : List Pr} (h : Upto n a b ps) (c : Int) : Upto n (a + 1) c ps :=
  ⟨h.good, fun p hp => by rcases h.lt p hp with q | ⟨q1, q2⟩; exact .inl (by have : p.1 < a := q; show p.1 < a + 1; omega); exact .inl (by have : p.1 = a := q1; show p.1 < a + 1; omega)⟩
def mn (i j : Int) : Int := if j < i then j else i
def mx (i j : Int) : Int := if j > i then j else i
/-- the program's beside -/
def below (ps : List Pr) (x : Int) : List Int := (ps.filter fun p => decide (p.2 = x)).map (·.1)
def above (ps : List Pr) (x : Int) : List Int := (ps.filter fun p => decide (p.1 = x)).map (·.2)
def bes (ps : List Pr) (x : Int) : List Int := below ps x ++ above ps x
/-- the law's -/
def lbes (n : Nat) (ps : List Pr) (x : Int) : List Int := ((List.range n).filter fun (o : Nat) => decide ((mn x (o : Int), mx x (o : Int)) ∈ ps)).map fun (o : Nat) => (o : Int)
/-- counts -/
def ct (ps : List Pr) (i : Nat) : Int := ((ps.countP (fun p => decide (p.1 = (i : Int))) + ps.countP (fun p => decide (p.2 = (i : Int))) : Nat) : Int)
def cnt (n : Nat) (ps : List Pr) : List Int := (List.range n).map (ct ps)
/-- all pairs -/
def rowOf (n : Nat) (a : Nat) : List Pr := (List.range (n - (a + 1))).map fun (j : Nat) => ((a : Int), (a : Int) + 1 + (j : Int))
def rows (n k : Nat) : List Pr := (List.range k).flatMap (rowOf n)
end Wb

end
section
set_option Elab.async false
set_option linter.all false
set_option maxRecDepth 100000
namespace Wb
open PySem L2
/-! ### data that repr tells -/
structure Shw (d : PyData) : Prop where
  s : d.showable = true
  h : d.hasDict = false
  dep : d.depth ≤ 60
  l : d.shown.length ≤ sizeLine
theorem shownAll_map : ∀ xs : List PyData, PyData.shownAll xs = xs.map PyData.shown
  | [] => rfl
  | x :: xs => by rw [PyData.shownAll, shownAll_map xs]; rfl
theorem tupleText_len (ts : List Str) : (tupleText ts).length ≤ piled ts + 3 := by
  unfold tupleText
  rw [strLen_append, strLen_append]
  have e1 : ((("(" : String) : Str)).length = 1 := rfl
  have e3 : (((if ts.length == 1 then ",)" else ")" : String) : Str)).length ≤ 2 := by split <;> decide
  rw [e1]
  cases ts with
  | nil => have : (Str.join ", " ([] : List Str)).length = 0 := rfl
           rw [this]; omega
  | cons t ts =>
    have := join_length_add (t :: ts) (by simp)
    omega
theorem piled_le {B : Nat} : ∀ {ts : List Str}, (∀ t ∈ ts, t.length ≤ B) → piled ts ≤ ts.length * (B + 2)
  | [], _ => by simp [piled]
  | t :: ts, h => by
    have h1 := h t (by simp)
    have h2 := piled_le (ts := ts) fun u hu => h u (List.mem_cons_of_mem _ hu)
    rw [piled_cons, List.length_cons, Nat.succ_mul]
    omega
theorem tuple_len {B : Nat} {ds : List PyData} (h : ∀ d ∈ ds, d.shown.length ≤ B) : (PyData.tuple ds).shown.length ≤ ds.length * (B + 2) + 3 := by
  rw [PyData.shown, shownAll_map]
  refine Nat.le_trans (tupleText_len _) ?_
  have := piled_le (B := B) (ts := ds.map PyData.shown) fun t ht => by
    obtain ⟨d, hd, rfl⟩ := List.mem_map.mp ht
    exact h d hd
  rw [List.length_map] at this
  omega
theorem int_len {i : Int} (h0 : 0 ≤ i) (h1 : i < 100) : (PyData.int i).shown.length ≤ 2 ∧ (PyData.int i).showable = true := by
  obtain ⟨k, rfl⟩ := Int.eq_ofNat_of_zero_le h0
  have hk : k < 100 := by omega
  have key : ∀ k : Fin 100, (PyData.int ((k.val : Nat) : Int)).shown.length ≤ 2 ∧ (PyData.int ((k.val : Nat) : Int)).showable = true := by decide +kernel
  exact key ⟨k, hk⟩
theorem showableAll_of : ∀ {ds : List PyData}, (∀ d ∈ ds, d.showable = true) → PyData.showableAll ds = true
  | [], _ => rfl
  | d :: ds, h => by rw [PyData.showableAll, h d (by simp), showableAll_of fun e he => h e (List.mem_cons_of_mem _ he)]; rfl
theorem hasDictAll_of : ∀ {ds : List PyData}, (∀ d ∈ ds, d.hasDict = false) → PyData.hasDictAll ds = false
  | [], _ => rfl
  | d :: ds, h => by rw [PyData.hasDictAll, h d (by simp), hasDictAll_of fun e he => h e (List.mem_cons_of_mem _ he)]; rfl
theorem depthAll_of {k : Nat} : ∀ {ds : List PyData}, (∀ d ∈ ds, d.depth ≤ k) → PyData.depthAll ds ≤ k
  | [], _ => Nat.zero_le _
  | d :: ds, h => by rw [PyData.depthAll]; exact Nat.max_le.mpr ⟨h d (by simp), depthAll_of fun e he => h e (List.mem_cons_of_mem _ he)⟩
theorem Shw.tup {k B : Nat} {ds : List PyData} (h : ∀ d ∈ ds, d.showable = true ∧ d.hasDict = false ∧ d.depth ≤ k ∧ d.shown.length ≤ B) (hk : k < 60) (hB : ds.length * (B + 2) + 3 ≤ sizeLine) : Shw (.tuple ds) := by
  refine ⟨?_, ?_, ?_, Nat.le_trans (tuple_len (B := B) fun d hd => (h d hd).2.2.2) hB⟩
  · rw [PyData.showable]; exact showableAll_of fun d hd => (h d hd).1
  · rw [PyData.hasDict]; exact hasDictAll_of fun d hd => (h d hd).2.1
  · rw [PyData.depth]; have := depthAll_of (k := k) fun d hd => (h d hd).2.2.1; omega
/-- a tuple of small ints -/
def dInts (l : List Int) : PyData := .tuple (l.map PyData.int)
/-- a pair -/
def pd (p : Pr) : PyData := .tuple [.int p.1, .int p.2]
theorem shw_pd {p : Pr} (h : 0 ≤ p.1 ∧ p.1 < 100 ∧ 0 ≤ p.2 ∧ p.2 < 100) : (pd p).showable = true ∧ (pd p).hasDict = false ∧ (pd p).depth ≤ 1 ∧ (pd p).shown.length ≤ 11 := by
  obtain ⟨h1, h2, h3, h4⟩ := h
  have a := int_len h1 h2
  have b := int_len h3 h4
  have l := tuple_len (B := 2) (ds := [.int p.1, .int p.2]) fun d hd => by
    rcases List.mem_cons.mp hd with rfl | hd
    · exact a.1
    · rcases List.mem_cons.mp hd with rfl | hd
      · exact b.1
      · cases hd
  refine ⟨?_, rfl, Nat.le_refl _, l⟩
  show (PyData.showable _ && (PyData.showable _ && true)) = true
  rw [a.2, b.2]; rfl
def dPairs (ps : List Pr) : PyData := .tuple (ps.map pd)
def dWeb (n : Int) (ps : List Pr) : PyData := .tuple [.int n, dPairs ps]
theorem any_pd (ps : List Pr) (q : Pr) : ((ps.map pd).any fun e => PyData.eqv e (pd q)) = decide (q ∈ ps) := by
  rw [List.any_map]
  rw [Bool.eq_iff_iff, List.any_eq_true, decide_eq_true_iff]
  constructor
  · rintro ⟨p, hp, h⟩
    have h : (p.1 == q.1 && (p.2 == q.2 && true)) = true := h
    rw [Bool.and_true, Bool.and_eq_true, beq_iff_eq, beq_iff_eq] at h
    have : p = q := Prod.ext h.1 h.2
    exact this ▸ hp
  · intro h
    refine ⟨q, h, ?_⟩
    show (q.1 == q.1 && (q.2 == q.2 && true)) = true
    rw [beq_self_eq_true, beq_self_eq_true]; rfl
theorem canLay_pairs : ∀ ps : List Pr, PyData.canLayAll0 (ps.map pd) = true
  | [] => rfl
  | p :: ps => by
    show (PyData.canLay0 (pd p) && PyData.canLayAll0 (ps.map pd)) = true
    rw [canLay_pairs ps]; rfl
section
variable {K : PySem.W.Frag}
theorem dp_pd {H : Hp} {t : Addr} {p : Pr} (h : H t = some (.tup [.int p.1, .int p.2])) : Dp K H (.ref t) (pd p) := .tup (SqT.of h) (.cons (.int _) (.cons (.int _) .nil))
end
end Wb

end
section
set_option Elab.async false
set_option linter.all false
set_option maxRecDepth 100000
namespace Wb
open PySem L2
theorem two_le : 2 ≤ sizeLine := by decide
/-! ### webs in the heap -/
def PairAt (H : Hp) (v : V) (p : Pr) : Prop := ∃ a, v = .ref a ∧ H a = some (.tup [.int p.1, .int p.2])
abbrev PairsAt (H : Hp) : List V → List Pr → Prop := Paired (PairAt H)
def WebAt (H : Hp) (v : V) (n : Int) (ps : List Pr) : Prop := ∃ a t xs, v = .ref a ∧ H a = some (.tup [.int n, .ref t]) ∧ H t = some (.tup xs) ∧ PairsAt H xs ps
/-- tuples stay -/
def SameT (H H' : Hp) : Prop := ∀ a xs, H a = some (.tup xs) → H' a = some (.tup xs)
theorem SameT.of {H H' : Hp} (s : Same H H') : SameT H H' := fun a xs e => s a _ e
theorem SameT.trans {H H1 H2 : Hp} (s : SameT H H1) (t : SameT H1 H2) : SameT H H2 := fun a xs e => t a xs (s a xs e)
theorem SameT.lst {H : Hp} {p : Addr} {xs ys : List V} (h : H p = some (.lst xs)) : SameT H (upd H p (.lst ys)) := fun a zs e => by
  rw [upd_ne (ne_of e h (by intro z; cases z))]; exact e
theorem SameT.new {H : Hp} {p : Addr} {o : HO} (h : H p = none) : SameT H (upd H p o) := SameT.of (same_upd h)
theorem SameBut.tup {p : Addr} {H H' : Hp} {xs : List V} (s : SameBut p H H') (h : H p = some (.lst xs)) : SameT H H' := fun a zs e => s a _ e (ne_of e h (by intro z; cases z))
theorem PairsAt.mono {H H' : Hp} {xs : List V} {ps : List Pr} (s : SameT H H') (h : PairsAt H xs ps) : PairsAt H' xs ps := L2.Paired.mapP h fun v p ⟨a, e, q⟩ => ⟨a, e, s _ _ q⟩
theorem WebAt.mono {H H' : Hp} {v : V} {n : Int} {ps : List Pr} (s : SameT H H') (h : WebAt H v n ps) : WebAt H' v n ps :=
  let ⟨a, t, xs, e, h1, h2, h3⟩ := h
  ⟨a, t, xs, e, s _ _ h1, s _ _ h2, PairsAt.mono s h3⟩
/-- the law's two numbers at p -/
def StAt (H : Hp) (p : Addr) : Prop := ∃ x y : Int, H p = some (.lst [.int x, .int y]) ∧ 0 ≤ y ∧ y < 2 ^ 40
section
variable {K : PySem.W.Frag}
theorem PairsAt.get {H : Hp} : ∀ {xs : List V} {ps : List Pr} {i : Nat} {x : V}, PairsAt H xs ps → xs[i]? = some x → ∃ p a, ps[i]? = some p ∧ x = .ref a ∧ H a = some (.tup [.int p.1, .int p.2])
  | _, _, _, _, .nil, e => by simp at e
  | _, _, 0, _, .cons ⟨a, r, h⟩ _, e => by simp at e; subst e; exact ⟨_, a, rfl, r, h⟩
  | _, _, i + 1, x, .cons _ t, e => by
    obtain ⟨p, a, h1, h2, h3⟩ := PairsAt.get (i := i) (x := x) t (by simpa using e)
    exact ⟨p, a, by simpa using h1, h2, h3⟩
theorem take_snoc {α : Type} {ps : List α} {i : Nat} {p : α} (h : ps[i]? = some p) : ps.take (i + 1) = ps.take i ++ [p] := by
  rw [List.take_add_one, h]; rfl
theorem dpAll_pairs {H : Hp} : ∀ {xs : List V} {ps : List Pr}, PairsAt H xs ps → DpAll K H xs (ps.map pd)
  | _, _, .nil => .nil
  | _, _, .cons ⟨a, e, h⟩ t => .cons (e ▸ dp_pd h) (dpAll_pairs t)
theorem dp_web {H : Hp} {v : V} {n : Int} {ps : List Pr} (h : WebAt H v n ps) : ∃ a, v = .ref a ∧ Dp K H (.ref a) (dWeb n ps) := by
  obtain ⟨a, t, xs, e, ha, ht, hp⟩ := h
  exact ⟨a, e, .tup (SqT.of ha) (.cons (.int _) (.cons (.tup (SqT.of ht) (dpAll_pairs hp)) .nil))⟩
theorem iteB {b c : Bool} {A B : Prop} (e : b = c) (h : if c = true then A else B) : if b = true then A else B := by rw [e]; exact h
theorem PairsAt.append {H : Hp} : ∀ {xs ys : List V} {ps qs : List Pr}, PairsAt H xs ps → PairsAt H ys qs → PairsAt H (xs ++ ys) (ps ++ qs)
  | _, _, _, _, .nil, s => s
  | _, _, _, _, .cons r t, s => .cons r (PairsAt.append t s)
theorem dec_int {a b : Int} (h : decide (V.int a = V.int b) = true) : a = b := by
  have := of_decide_eq_true h
  exact V.int.inj this
end
end Wb

end
section
set_option linter.all false
namespace Wb
theorem lt2_irrefl {p q : Pr} (h : lt2 p q) (h2 : lt2 q p ∨ p = q) : False := by
  rcases h2 with h2 | rfl
  · rcases h with h | ⟨h, h'⟩ <;> rcases h2 with h2 | ⟨h2, h2'⟩ <;> omega
  · rcases h with h | ⟨h, h'⟩ <;> omega
theorem ext_sorted2 : ∀ {l m : List Pr}, l.Pairwise lt2 → m.Pairwise lt2 → (∀ x, x ∈ l ↔ x ∈ m) → l = m
  | [], [], _, _, _ => rfl
  | [], y :: m, _, _, h => absurd ((h y).mpr (by simp)) (by simp)
  | x :: l, [], _, _, h => absurd ((h x).mp (by simp)) (by simp)
  | x :: l, y :: m, hl, hm, h => by
    obtain ⟨l1, l2⟩ := List.pairwise_cons.mp hl
    obtain ⟨m1, m2⟩ := List.pairwise_cons.mp hm
    have e : x = y := by
      have hx := (h x).mp (by simp)
      have hy := (h y).mpr (by simp)
      rcases List.mem_cons.mp hx with e | hx
      · exact e
      · rcases List.mem_cons.mp hy with e | hy
        · exact e.symm
        · exact (lt2_irrefl (m1 x hx) (.inl (l1 y hy))).elim
    subst e
    rw [ext_sorted2 l2 m2 fun z => ?_]
    constructor
    · intro hz
      rcases List.mem_cons.mp ((h z).mp (List.mem_cons_of_mem _ hz)) with e | q
      · exact (lt2_irrefl (l1 z hz) (.inr e.symm)).elim
      · exact q
    · intro hz
      rcases List.mem_cons.mp ((h z).mpr (List.mem_cons_of_mem _ hz)) with e | q
      · exact (lt2_irrefl (m1 z hz) (.inr e.symm)).elim
      · exact q
def le2' (p q : Pr) : Prop := p.1 < q.1 ∨ (p.1 = q.1 ∧ p.2 ≤ q.2)
theorem lt2_of_le2 : ∀ {l : List Pr}, l.Pairwise le2' → l.Nodup → l.Pairwise lt2
  | [], _, _ => .nil
  | x :: l, h, nd => by
    obtain ⟨h1, h2⟩ := List.pairwise_cons.mp h
    obtain ⟨n1, n2⟩ := List.nodup_cons.mp nd
    refine List.pairwise_cons.mpr ⟨fun y hy => ?_, lt2_of_le2 h2 n2⟩
    rcases h1 y hy with q | ⟨q1, q2⟩
    · exact .inl q
    · by_cases c : x.2 = y.2
      · exact absurd (show x = y from Prod.ext q1 c) (fun e => n1 (e ▸ hy))
      · exact .inr ⟨q1, by omega⟩
theorem Good.nodup {n : Int} {ps : List Pr} (g : Good n ps) : ps.Nodup :=
  g.up.imp fun h e => lt2_irrefl h (.inr e)
theorem good_eq {n : Int} {ps qs : List Pr} (g : Good n ps) (g' : Good n qs) (h : ∀ x, x ∈ ps ↔ x ∈ qs) : ps = qs := ext_sorted2 g.up g'.up h
/-- two unlike places -/
theorem mnmx {i j n : Int} (hi : 0 ≤ i ∧ i < n) (hj : 0 ≤ j ∧ j < n) (h : i ≠ j) : 0 ≤ mn i j ∧ mn i j < mx i j ∧ mx i j < n := by
  unfold mn mx
  by_cases c : j < i
  · rw [if_pos c, if_neg (by omega)]; omega
  · rw [if_neg c, if_pos (by omega)]; omega
end Wb

end
section
set_option linter.all false
namespace Wb
/-! ### rings, turned and told -/
def pr (a b : Int) : Pr := (mn a b, mx a b)
theorem pr_comm (a b : Int) : pr a b = pr b a := by
  unfold pr mn mx
  by_cases h : b < a
  · rw [if_pos h, if_neg (by omega), if_neg (by omega), if_pos (by omega)]
  · by_cases h2 : a < b
    · rw [if_neg h, if_pos (by omega), if_pos h2, if_neg (by omega)]
    · have : a = b := by omega
      subst this; rfl
/-- neighbours -/
def stepsL : List Int → List Pr
  | [] => []
  | [_] => []
  | a :: b :: l => pr a b :: stepsL (b :: l)
theorem stepsL_snoc : ∀ (l : List Int) (a b : Int), stepsL (l ++ [a, b]) = stepsL (l ++ [a]) ++ [pr a b]
  | [], a, b => rfl
  | [x], a, b => rfl
  | x :: y :: l, a, b => by
    show pr x y :: stepsL (y :: l ++ [a, b]) = pr x y :: (stepsL (y :: l ++ [a]) ++ [pr a b])
    rw [stepsL_snoc (y :: l) a b]
theorem stepsL_app : ∀ (l m : List Int) (a b : Int), stepsL (l ++ a :: b :: m) = stepsL (l ++ [a]) ++ pr a b :: stepsL (b :: m)
  | [], m, a, b => rfl
  | [x], m, a, b => rfl
  | x :: y :: l, m, a, b => by
    show pr x y :: stepsL (y :: l ++ a :: b :: m) = pr x y :: (stepsL (y :: l ++ [a]) ++ pr a b :: stepsL (b :: m))
    rw [stepsL_app (y :: l) m a b]
theorem stepsL_rev : ∀ l : List Int, stepsL l.reverse = (stepsL l).reverse
  | [] => rfl
  | [_] => rfl
  | a :: b :: l => by
    have ih := stepsL_rev (b :: l)
    rw [List.reverse_cons] at ih
    rw [List.reverse_cons, List.reverse_cons, List.append_assoc]
    show stepsL (l.reverse ++ [b, a]) = (pr a b :: stepsL (b :: l)).reverse
    rw [stepsL_snoc, ih, List.reverse_cons, pr_comm b a]
/-- the ties of a ring -/
def cyc (l : List Int) : List Pr := stepsL (l ++ l.take 1)
theorem cyc_cons (a : Int) (l : List Int) : cyc (a :: l) = stepsL (a :: l ++ [a]) := rfl
/-- begun elsewhere -/
def Rot (l m : List Int) : Prop := ∃ a b, l = a ++ b ∧ m = b ++ a
theorem Rot.refl (l : List Int) : Rot l l := ⟨[], l, rfl, by simp⟩
theorem Rot.symm {l m : List Int} (h : Rot l m) : Rot m l := let ⟨a, b, e1, e2⟩ := h; ⟨b, a, e2, e1⟩
theorem Rot.trans {l m n : List Int} (h : Rot l m) (h' : Rot m n) : Rot l n := by
  obtain ⟨a, b, rfl, rfl⟩ := h
  obtain ⟨c, d, e, rfl⟩ := h'
  rcases List.append_eq_append_iff.mp e with ⟨e', rfl, rfl⟩ | ⟨e', rfl, rfl⟩
  · exact ⟨e', d ++ b, by simp, by simp⟩
  · exact ⟨a ++ c, e', by simp, by simp⟩
theorem Rot.rev {l m : List Int} (h : Rot l m) : Rot l.reverse m.reverse := by
  obtain ⟨a, b, rfl, rfl⟩ := h
  exact ⟨b.reverse, a.reverse, by simp, by simp⟩
theorem Rot.perm {l m : List Int} (h : Rot l m) : m.Perm l := by
  obtain ⟨a, b, rfl, rfl⟩ := h
  exact List.perm_append_comm
theorem Rot.cyc {l m : List Int} (h : Rot l m) : (cyc m).Perm (cyc l) := by
  obtain ⟨a, b, rfl, rfl⟩ := h
  cases a with
  | nil => simp
  | cons x a =>
    cases b with
    | nil => simp
    | cons y b =>
      have e1 : Wb.cyc (x :: a ++ y :: b) = stepsL (x :: a ++ y :: (b ++ [x])) := by
        show stepsL (x :: (a ++ y :: b) ++ [x]) = _
        simp
      have e2 : Wb.cyc (y :: b ++ x :: a) = stepsL (y :: b ++ x :: (a ++ [y])) := by
        show stepsL (y :: (b ++ x :: a) ++ [y]) = _
        simp
      rw [e1, e2]
      have s1 : ∀ (u v : Int) (p q : List Int), stepsL (u :: p ++ v :: q) = stepsL (u :: p ++ [v]) ++ stepsL (v :: q) := by
        intro u v p q
        cases q with
        | nil => simp [stepsL]
        | cons w q =>
          rw [stepsL_app (u :: p) q v w]
          simp [stepsL]
      rw [s1 y x b (a ++ [y]), s1 x y a (b ++ [x])]
      have c1 : stepsL (y :: (b ++ [x])) = stepsL (y :: b ++ [x]) := rfl
      have c2 : stepsL (x :: (a ++ [y])) = stepsL (x :: a ++ [y]) := rfl
      rw [c1, c2]
      exact List.perm_append_comm
theorem cyc_rev (l : List Int) : (cyc l.reverse).Perm (cyc l) := by
  cases l with
  | nil => exact List.Perm.refl _
  | cons x l =>
    have h1 : Rot ((x :: l).reverse) (x :: l.reverse) := ⟨l.reverse, [x], by simp, by simp⟩
    refine h1.cyc.symm.trans ?_
    rw [cyc_cons, cyc_cons]
    have : (x :: l ++ [x]).reverse = x :: l.reverse ++ [x] := by simp
    rw [← this, stepsL_rev]
    exact List.reverse_perm _
/-- the same ring -/
def Cy (l m : List Int) : Prop := Rot l m ∨ Rot l.reverse m
theorem Cy.refl (l : List Int) : Cy l l := .inl (Rot.refl l)
theorem Cy.symm {l m : List Int} (h : Cy l m) : Cy m l := by
  rcases h with h | h
  · exact .inl h.symm
  · exact .inr (by have := h.symm.rev; rwa [List.reverse_reverse] at this)
theorem Cy.trans {l m n : List Int} (h : Cy l m) (h' : Cy m n) : Cy l n := by
  rcases h with h | h
  · rcases h' with h' | h'
    · exact .inl (h.trans h')
    · exact .inr (h.rev.trans h')
  · rcases h' with h' | h'
    · exact .inr (h.trans h')
    · refine .inl ?_
      have := h.rev.trans h'
      rwa [List.reverse_reverse] at this
theorem Cy.perm {l m : List Int} (h : Cy l m) : m.Perm l := by
  rcases h with h | h
  · exact h.perm
  · exact h.perm.trans (List.reverse_perm l)
theorem Cy.cyc {l m : List Int} (h : Cy l m) : (cyc m).Perm (cyc l) := by
  rcases h with h | h
  · exact h.cyc
  · exact h.cyc.trans (cyc_rev l)
theorem Cy.rev (l : List Int) : Cy l l.reverse := .inr (Rot.refl _)
def rots (l : List Int) : List (List Int) := (List.range l.length).map fun k => l.drop k ++ l.take k
def turns (l : List Int) : List (List Int) := rots l ++ rots l.reverse
/-- the least turn -/
structure Told (l z : List Int) : Prop where
  cy : Cy l z
  low : ∀ y, Cy l y → HT.lexLt y z = false
theorem lex_anti : ∀ {a b : List Int}, HT.lexLt a b = false → HT.lexLt b a = false → a = b
  | [], [], _, _ => rfl
  | [], y :: b, h, _ => by cases h
  | x :: a, [], _, h => by cases h
  | x :: a, y :: b, h1, h2 => by
    have e1 : HT.lexLt (x :: a) (y :: b) = if x = y then HT.lexLt a b else decide (x < y) := rfl
    have e2 : HT.lexLt (y :: b) (x :: a) = if y = x then HT.lexLt b a else decide (y < x) := rfl
    rw [e1] at h1; rw [e2] at h2
    by_cases c : x = y
    · subst c
      rw [if_pos rfl] at h1 h2
      rw [lex_anti h1 h2]
    · rw [if_neg c] at h1
      rw [if_neg (Ne.symm c)] at h2
      have := of_decide_eq_false h1
      have := of_decide_eq_false h2
      omega
theorem Told.uniq {l z z' : List Int} (h : Told l z) (h' : Told l z') : z = z' := lex_anti (h'.low z h.cy) (h.low z' h'.cy)
theorem Told.of {l m z : List Int} (h : Told l z) (c : Cy l m) : Told m z := ⟨c.symm.trans h.cy, fun y hy => h.low y (c.trans hy)⟩
theorem lex_head {x y : Int} {a b : List Int} (h : HT.lexLt (x :: a) (y :: b) = false) : y ≤ x := by
  have e1 : HT.lexLt (x :: a) (y :: b) = if x = y then HT.lexLt a b else decide (x < y) := rfl
  rw [e1] at h
  by_cases c : x = y
  · omega
  · rw [if_neg c] at h
    have := of_decide_eq_false h
    omega
theorem Told.head {l : List Int} {x : Int} {z : List Int} (h : Told l (x :: z)) : x ∈ l ∧ ∀ y ∈ l, x ≤ y := by
  refine ⟨h.cy.perm.mem_iff.mp (by simp), fun y hy => ?_⟩
  obtain ⟨a, b, rfl⟩ := List.append_of_mem hy
  exact lex_head (h.low (y :: b ++ a) (.inl ⟨a, y :: b, rfl, rfl⟩))
/-- the law's own look at the neighbours -/
def lcyc (l : List Int) : List Pr := (List.range l.length).map fun k => pr (if k = 0 then l.getD (l.length - 1) 0 else l.getD (k - 1) 0) (l.getD k 0)
end Wb

end
section
set_option Elab.async false
set_option linter.all false
set_option maxRecDepth 100000
namespace L2
open PySem PySem.Spec PyProof.Rows
/-! ### [*t, ..] -/
def tStar (K : PySem.W.Frag) (ta : TE) (tr : TA) : TA := fun σ H Q => ta σ H fun x H1 => ∃ a xs, x = .ref a ∧ SqT K H1 a xs ∧ tr σ H1 fun ys H2 => Q (xs ++ ys) H2
theorem pa_star {X : Cx} {e : Expr} {es : List Expr} {te : TE} {t : TA} {p : Pos} (ha : PE X e te) (hr : PA X es t) (hs : starEach (.Starred e p :: es) X.env = (true, eval e X.env) :: starEach es X.env := by rfl) : PA X (.Starred e p :: es) (tStar X.K te t) := by
  intro pos pins s σ H Q I h
  refine PySem.W.items_star (thn (ha pins s σ H _ I h) fun u s1 ⟨x, H1, I1, r1, a, xs, ex, hq, q1⟩ => ?_) hs
  subst ex
  cases r1
  obtain ⟨its, rv, ⟨o, ho, hc, n, hd⟩, hz⟩ := I1.tuple hq
  have hl := rv.length
  have hT' : s1.TypeIs (.ref a) "tuple" := ⟨o, ho, hc⟩
  unfold PySem.W.StarOf notIterableAtAll
  refine wpAny_bind (wpAny_specialOf hT' PySem.F.slot_tuple_iter.lookup (wpAny_pure ⟨rfl, ?_⟩))
  refine wpAny_collect_seq a (.inr rfl) ho hc hd (fun h' hk => ?_) (by simp only [List.size_toArray]; omega)
  have I2 : Inv X pins σ H1 { s1 with heap := h' } := I1.kept (t' := s1.toks) hk
  refine thn (hr pos pins _ σ H1 _ I2 q1) fun us s2 ⟨ys, H2, I3, r2, q2⟩ => ⟨xs ++ ys, H2, I3, ?_, q2⟩
  show Vals (xs ++ ys) (its.toArray.toList ++ us)
  simp only
  exact rv.append r2
/-! ### sorted of a list of pairs of ints -/
/-- the pair that a value stands for -/
def gP (H : Hp) : V → Int × Int
  | .ref a => match H a with
    | some (.tup [.int i, .int j]) => (i, j)
    | _ => (0, 0)
  | _ => (0, 0)
def IsP (H : Hp) (v : V) : Prop := ∃ a i j, v = .ref a ∧ H a = some (.tup [.int i, .int j])
def le2 (p q : Int × Int) : Prop := p.1 < q.1 ∨ (p.1 = q.1 ∧ p.2 ≤ q.2)
def rSortedP (K : PySem.W.Frag) : List V → Hp → VK → Prop := fun vs H Q => ∃ (a : Addr) (xs : List V), vs = [V.ref a] ∧ SqL K H a xs ∧ (∀ v ∈ xs, IsP H v) ∧
  ∀ (ys : List V) (p : Addr), ys.Perm xs → (ys.map (gP H)).Pairwise le2 → H p = none → Q (.ref p) (upd H p (.lst ys))
def backV (u : Value) : V := (absV u).getD .non
theorem backV_vals : ∀ {xs : List V} {its : List Value}, Vals xs its → its.map backV = xs
  | _, _, .nil => rfl
  | _, _, .cons r t => by rw [List.map_cons, backV_vals t]; show (absV _).getD .non :: _ = _; rw [r.abs]; rfl
open PyProof.Rows.G in
theorem cr_sortedP {X : Cx} : CallR X (.builtin "sorted") (rSortedP X.K) := by
  intro pins s σ H vs us Q I r h
  obtain ⟨a, xs, rfl, hs, hp, q⟩ := h
  obtain ⟨its, rv, hl, hz⟩ := I.list hs
  rw [Vals.ref1 r]
  have hlen := rv.length
  -- each value is a tuple of two ints
  have key : ∀ v ∈ its, ∃ b i j, v = .ref b ∧ H b = some (.tup [.int i, .int j]) ∧ (∃ o n ti tj, s.heap.get? b = some o ∧ o.cls = .type "tuple" ∧ o.data = .seq #[.int i ti, .int j tj] n) := by
    intro v hv
    obtain ⟨k, hk⟩ := List.getElem?_of_mem hv
    have hkx : k < xs.length := by rw [hlen]; exact (List.getElem?_eq_some_iff.mp hk).1
    obtain ⟨u, hu, ru⟩ := rv.get (show xs[k]? = some xs[k] by simp [hkx])
    rw [hk] at hu; cases hu
    obtain ⟨b, i, j, e, hb⟩ := hp xs[k] (List.getElem_mem hkx)
    rw [e] at ru
    cases ru
    obtain ⟨_, its', rv', ⟨o, ho, hc, n, hd⟩⟩ := I.hok b _ hb
    cases rv' with
    | cons r1 r2 =>
      cases r2 with
      | cons r2 r3 =>
        cases r3
        obtain ⟨ti, rfl⟩ := r1
        obtain ⟨tj, rfl⟩ := r2
        exact ⟨b, i, j, rfl, hb, o, n, ti, tj, ho, hc, hd.1⟩
  have keyC : ∀ v ∈ its, ∃ b i j, v = .ref b ∧ H b = some (.tup [.int i, .int j]) ∧ tupKeyC s.heap (fun _ => false) v = some [Sum.inl i, Sum.inl j] := by
    intro v hv
    obtain ⟨b, i, j, rfl, hb, o, n, ti, tj, ho, hc, hd⟩ := key v hv
    refine ⟨b, i, j, rfl, hb, ?_⟩
    unfold tupKeyC
    have e : isTupObj s.heap (.ref b) = true := by simp [isTupObj, ho, hc]
    rw [if_pos e]
    simp [tupKey, ho, hd, tupItems]
  have tups : ∀ l : List Value, (∀ v ∈ l, v ∈ its) → ∃ fs, TupsOf s.heap (fun _ => false) l fs := by
    intro l
    induction l with
    | nil => exact fun _ => ⟨[], .nil⟩
    | cons v l ih =>
      intro hv
      obtain ⟨fs, hf⟩ := ih fun w hw => hv w (List.mem_cons_of_mem _ hw)
      obtain ⟨b, i, j, rfl, hb, o, n, ti, tj, ho, hc, hd⟩ := key v (hv v (List.mem_cons_self ..))
      exact ⟨.int i ti :: fs, .cons ⟨b, o, _, n, rfl, ho, hc, hd, rfl, fun _ => ⟨i, ti, rfl⟩, fun z => by cases z⟩ hf⟩
  obtain ⟨fs, hf⟩ := tups its fun v hv => hv
  refine PyProof.Rows.G.sorted_tups (fs := fs) hl.isList hf (fun v hv => let ⟨_, _, _, _, _, e⟩ := keyC v hv; ⟨_, e⟩) (by omega) fun st' p1 p2 p3 => ?_
  obtain ⟨ep, he'⟩ := PyProof.Rows.sortedAll_at s.heap its ((arrOf st').map (·.2))
  -- the outcome as values
  have pl : (arrOf st').toList.Perm (its.zip its) := by rw [← pairsOf_toList]; exact p1.toList
  have same : ∀ p ∈ (arrOf st').toList, p.1 = p.2 ∧ p.1 ∈ its := fun p hpm => mem_zip_self (pl.mem_iff.mp hpm)
  have ol : ((arrOf st').map (·.2)).toList = (arrOf st').toList.map (·.2) := by simp
  have o1 : (arrOf st').toList.map (·.2) = (arrOf st').toList.map (·.1) := List.map_congr_left fun p hpm => (same p hpm).1.symm
  have op : ((arrOf st').toList.map (·.2)).Perm its := by
    have := pl.map (·.2)
    rw [List.map_snd_zip (Nat.le_refl _)] at this
    exact this
  -- back to V
  have bx : its.map backV = xs := backV_vals rv
  have bv : ∀ l : List Value, (∀ v ∈ l, v ∈ its) → Vals (l.map backV) l := by
    intro l
    induction l with
    | nil => exact fun _ => .nil
    | cons v l ih =>
      intro hv
      obtain ⟨b, i, j, rfl, _⟩ := key v (hv v (List.mem_cons_self ..))
      exact .cons rfl (ih fun w hw => hv w (List.mem_cons_of_mem _ hw))
  have yp : (((arrOf st').toList.map (·.2)).map backV).Perm xs := by
    have := op.map backV
    rwa [bx] at this
  have ylen : (((arrOf st').toList.map (·.2)).map backV).length ≤ sizeLine := by rw [yp.length_eq]; exact hz
  have ysort : ((((arrOf st').toList.map (·.2)).map backV).map (gP H)).Pairwise le2 := by
    rw [List.pairwise_iff_getElem]
    intro i j hi hj hij
    simp only [List.length_map, Array.length_toList] at hi hj
    have hsz : (pairsOf its).size = (arrOf st').size := p1.size_eq.symm
    have := p2 i j (Nat.le_of_lt hij) (by rw [hsz]; exact hj)
    simp only [List.getElem_map]
    have g : ∀ (k : Nat) (hk : k < (arrOf st').size), ∃ c d, KK (tupKindC s.heap fun _ => false) (arrOf st') k = [Sum.inl c, Sum.inl d] ∧ gP H (backV ((arrOf st').toList[k]'(by simpa using hk)).2) = (c, d) := by
      intro k hk
      have hm : (arrOf st').toList[k]'(by simpa using hk) ∈ (arrOf st').toList := List.getElem_mem _
      obtain ⟨e1, e2⟩ := same _ hm
      obtain ⟨b, c, d, e3, hb, e4⟩ := keyC _ e2
      refine ⟨c, d, ?_, ?_⟩
      · unfold KK
        have : (arrOf st')[k]? = some ((arrOf st').toList[k]'(by simpa using hk)) := by simp [hk]
        rw [this]
        show ((tupKeyC s.heap (fun _ => false) _).getD _) = _
        rw [e4]; rfl
      · rw [← e1, e3]
        show gP H (.ref b) = (c, d)
        simp [gP, hb]
    obtain ⟨c1, d1, k1, g1⟩ := g i hi
    obtain ⟨c2, d2, k2, g2⟩ := g j hj
    rw [k1, k2] at this
    rw [g1, g2]
    show c1 < c2 ∨ (c1 = c2 ∧ d1 ≤ d2)
    have hb : (decide (c2 < c1) || (!decide (c1 < c2) && (decide (d2 < d1) || (!decide (d1 < d2) && false)))) = false := this
    rw [Bool.or_eq_false_iff] at hb
    obtain ⟨h1, h2⟩ := hb
    have h1 := of_decide_eq_false h1
    by_cases c : c1 < c2
    · exact .inl c
    · rw [decide_eq_false c] at h2
      simp at h2
      exact .inr ⟨by omega, by omega⟩
  refine ⟨.ref _, upd H (s.heap.objs.size + 1) (.lst (((arrOf st').toList.map (·.2)).map backV)), I.laid (t' := s.toks) (fun _ _ => PyProof.Rows.sortedAll_old) (Nat.le_succ _) ⟨ylen, (arrOf st').toList.map (·.2), ep, bv _ (fun v hv => op.mem_iff.mp hv), ?_⟩, rfl, q _ _ yp ysort (I.hok.fresh (Nat.le_succ _))⟩
  rw [← ol, Array.toArray_toList]
  exact he'
end L2

end
section
set_option Elab.async false
set_option linter.all false
set_option maxRecDepth 100000
namespace SetM
open PySem PySem.SetTable
/-! ### the leaps come to every slot -/
def orb (m : Nat) : Nat → Nat
  | 0 => 0
  | n + 1 => (orb m n * 5 + 1) % m
def orbs (m : Nat) : Nat → Nat → List Nat
  | 0, _ => []
  | n + 1, i => i :: orbs m n ((i * 5 + 1) % m)
theorem orbs_eq (m : Nat) : ∀ (n k : Nat), orbs m n (orb m k) = (List.range n).map fun i => orb m (k + i)
  | 0, _ => rfl
  | n + 1, k => by
    rw [orbs, show (orb m k * 5 + 1) % m = orb m (k + 1) from rfl, orbs_eq m n (k + 1), List.range_succ_eq_map, List.map_cons, List.map_map]
    congr 1
    refine List.map_congr_left fun i _ => ?_
    show orb m (k + 1 + i) = orb m (k + (i + 1))
    congr 1; omega
def Full (m : Nat) : Bool := ((List.range m).all fun j => (orbs m m 0).contains j) && orb m m == 0 && decide (0 < m)
theorem full8 : Full 8 = true := by decide +kernel
theorem full32 : Full 32 = true := by decide +kernel
theorem full128 : Full 128 = true := by decide +kernel
theorem full512 : Full 512 = true := by decide +kernel
theorem orb_mem {m : Nat} (h : Full m = true) {j : Nat} (hj : j < m) : ∃ n, n < m ∧ orb m n = j := by
  unfold Full at h
  simp only [Bool.and_eq_true, List.all_eq_true] at h
  have := h.1.1 j (List.mem_range.mpr hj)
  rw [show orbs m m 0 = orbs m m (orb m 0) from rfl, orbs_eq] at this
  have := List.contains_iff_mem.mp this
  obtain ⟨n, hn, e⟩ := List.mem_map.mp this
  exact ⟨n, List.mem_range.mp hn, by rw [← e]; congr 1; omega⟩
theorem orb_per {m : Nat} (h : Full m = true) : ∀ n, orb m (m + n) = orb m n
  | 0 => by
    unfold Full at h
    simp only [Bool.and_eq_true] at h
    exact beq_iff_eq.mp h.1.2
  | n + 1 => by
    show (orb m (m + n) * 5 + 1) % m = (orb m n * 5 + 1) % m
    rw [orb_per h n]
/-- n leaps -/
def lp (mask : Nat) : Nat → Nat × Nat → Nat × Nat
  | 0, s => s
  | n + 1, s => lp mask n (leap mask s.1 s.2)
theorem lp_add (mask : Nat) : ∀ (a b : Nat) (s : Nat × Nat), lp mask (a + b) s = lp mask b (lp mask a s)
  | 0, b, s => by rw [Nat.zero_add]; rfl
  | a + 1, b, s => by rw [show a + 1 + b = (a + b) + 1 by omega]; exact lp_add mask a b _
theorem lp_zero (mask : Nat) : ∀ (n a : Nat), lp mask n (orb (mask + 1) a, 0) = (orb (mask + 1) (a + n), 0)
  | 0, a => rfl
  | n + 1, a => by
    show lp mask n ((orb (mask + 1) a * 5 + 1 + 0 / 32) % (mask + 1), 0 / 32) = _
    rw [show (0 : Nat) / 32 = 0 from rfl, Nat.add_zero, show (orb (mask + 1) a * 5 + 1) % (mask + 1) = orb (mask + 1) (a + 1) from rfl, lp_zero mask n (a + 1), show a + 1 + n = a + (n + 1) by omega]
theorem cover0 {mask : Nat} (h : Full (mask + 1) = true) {i j : Nat} (hi : i < mask + 1) (hj : j < mask + 1) : ∃ n, n ≤ mask ∧ (lp mask n (i, 0)).1 = j := by
  obtain ⟨a, ha, rfl⟩ := orb_mem h hi
  obtain ⟨b, hb, rfl⟩ := orb_mem h hj
  by_cases c : a ≤ b
  · refine ⟨b - a, by omega, ?_⟩
    rw [lp_zero, show a + (b - a) = b by omega]
  · refine ⟨mask + 1 - a + b, by omega, ?_⟩
    rw [lp_zero, show a + (mask + 1 - a + b) = (mask + 1) + b by omega, orb_per h]
theorem lp_perturb (mask : Nat) : ∀ (n : Nat) (s : Nat × Nat), (lp mask n s).2 = s.2 / 32 ^ n
  | 0, s => by simp [lp]
  | n + 1, s => by
    show (lp mask n (leap mask s.1 s.2)).2 = _
    rw [lp_perturb mask n]
    show s.2 / 32 / 32 ^ n = _
    rw [Nat.div_div_eq_div_mul, Nat.pow_succ, Nat.mul_comm]
theorem lp_lt (mask : Nat) : ∀ (n : Nat) (s : Nat × Nat), s.1 < mask + 1 → (lp mask n s).1 < mask + 1
  | 0, s, h => h
  | n + 1, s, h => lp_lt mask n _ (Nat.mod_lt _ (Nat.succ_pos _))
theorem cover {mask : Nat} (h : Full (mask + 1) = true) {i p j : Nat} (hi : i < mask + 1) (hp : p < 2 ^ 64) (hj : j < mask + 1) : ∃ n, n ≤ mask + 13 ∧ (lp mask n (i, p)).1 = j := by
  have e2 : (lp mask 13 (i, p)).2 = 0 := by
    rw [lp_perturb]
    exact Nat.div_eq_of_lt (Nat.lt_of_lt_of_le hp (by decide))
  have e1 := lp_lt mask 13 (i, p) hi
  obtain ⟨n, hn, e⟩ := cover0 h e1 hj
  refine ⟨13 + n, by omega, ?_⟩
  rw [lp_add]
  have : lp mask 13 (i, p) = ((lp mask 13 (i, p)).1, 0) := Prod.ext rfl e2
  rw [this]
  exact e
/-! ### the probe's steps -/
def adv (t : SetTable) : Nat → Probe → Probe
  | 0, p => p
  | n + 1, p => adv t n (t.advance p)
theorem adv_add (t : SetTable) : ∀ (a b : Nat) (p : Probe), adv t (a + b) p = adv t b (adv t a p)
  | 0, b, p => by rw [Nat.zero_add]; rfl
  | a + 1, b, p => by rw [show a + 1 + b = (a + b) + 1 by omega]; exact adv_add t a b _
def runAt (t : SetTable) (i perturb : Nat) : Probe := { j := i, more := runEnd t.mask i - i, i, perturb, dummy := none }
theorem adv_run (t : SetTable) (i perturb : Nat) : ∀ (k : Nat) (j m : Nat), adv t (k + 1) { j := j, more := k, i, perturb, dummy := none } = runAt t (leap t.mask i perturb).1 (leap t.mask i perturb).2
  | 0, j, m => by
    simp only [adv, SetTable.advance]
    rfl
  | k + 1, j, m => by
    show adv t (k + 1) (t.advance { j := j, more := k + 1, i, perturb, dummy := none }) = _
    have : t.advance { j := j, more := k + 1, i, perturb, dummy := none } = { j := j + 1, more := k, i, perturb, dummy := none } := by
      unfold SetTable.advance
      rw [if_pos (by simp)]
      rfl
    rw [this]
    exact adv_run t i perturb k (j + 1) m
theorem more_le (mask i : Nat) : runEnd mask i - i ≤ 9 := by
  unfold runEnd
  split <;> omega
theorem adv_leaps (t : SetTable) : ∀ (n i p : Nat), ∃ d, d ≤ 10 * n ∧ adv t d (runAt t i p) = runAt t (lp t.mask n (i, p)).1 (lp t.mask n (i, p)).2
  | 0, i, p => ⟨0, Nat.le_refl _, rfl⟩
  | n + 1, i, p => by
    obtain ⟨d, hd, e⟩ := adv_leaps t n (leap t.mask i p).1 (leap t.mask i p).2
    refine ⟨runEnd t.mask i - i + 1 + d, by have := more_le t.mask i; omega, ?_⟩
    rw [adv_add]
    have : adv t (runEnd t.mask i - i + 1) (runAt t i p) = runAt t (leap t.mask i p).1 (leap t.mask i p).2 := adv_run t i p _ i 0
    rw [this]
    exact e
theorem bits_lt (h : Int) : bits h < 2 ^ 64 := by
  unfold bits
  have h1 := Int.emod_nonneg h (show (2 ^ 64 : Int) ≠ 0 by decide)
  have h2 := Int.emod_lt_of_pos h (show (0 : Int) < 2 ^ 64 by decide)
  omega
/-- the probe comes to every slot in time -/
theorem reach {t : SetTable} (hf : Full (t.mask + 1) = true) (h : Int) {j : Nat} (hj : j < t.mask + 1) : ∃ d, d < 10 * turns t.mask ∧ (adv t d (t.probeStart h)).j = j := by
  obtain ⟨n, hn, e⟩ := cover hf (i := bits h % (t.mask + 1)) (p := bits h) (Nat.mod_lt _ (Nat.succ_pos _)) (bits_lt h) hj
  obtain ⟨d, hd, e2⟩ := adv_leaps t n (bits h % (t.mask + 1)) (bits h)
  refine ⟨d, by unfold turns; omega, ?_⟩
  have : t.probeStart h = runAt t (bits h % (t.mask + 1)) (bits h) := rfl
  rw [this, e2]
  exact e
/-! ### slots -/
theorem slot_cases (t : SetTable) (hd : t.dummies = #[]) (j : Nat) : t.slot j = .empty ∨ ∃ i, t.slot j = .live i ∧ t.place[i]? = some j := by
  unfold SetTable.slot
  by_cases c : (t.place[below t.place j]? == some j) = true
  · right
    refine ⟨below t.place j, by simp only [c, if_true], beq_iff_eq.mp c⟩
  · left
    have hh : has t.dummies j = false := by
      unfold has
      rw [hd]
      rfl
    simp only [c, hh, Bool.false_eq_true, if_false]
theorem empty_slot {t : SetTable} (hd : t.dummies = #[]) (hs : t.place.size ≤ t.mask) : ∃ j, j < t.mask + 1 ∧ t.slot j = .empty := by
  refine Classical.byContradiction fun hno => ?_
  have all : ∀ j, j < t.mask + 1 → j ∈ t.place.toList := fun j hj => by
    rcases slot_cases t hd j with e | ⟨i, _, e⟩
    · exact absurd ⟨j, hj, e⟩ hno
    · exact Array.mem_toList_iff.mpr (Array.mem_of_getElem? e)
  have sub : (List.range (t.mask + 1)) ⊆ t.place.toList := fun j hj => all j (List.mem_range.mp hj)
  have := (List.nodup_range (n := t.mask + 1)).length_le_of_subset sub
  rw [List.length_range, Array.length_toList] at this
  omega
end SetM
namespace SetM
open PySem PySem.SetTable
/-! ### a table laid anew -/
theorem free_some {mask : Nat} {owner : Array (Option Nat)} {j0 : Nat} (h0 : owner[j0]? = some none) : ∀ (n fuel i p : Nat), n < fuel → (lp mask n (i, p)).1 = j0 → i < mask + 1 →
    ∃ j, layClean.free mask owner fuel i p = some j ∧ owner[j]? = some none
  | n, 0, i, p, h, _, _ => by omega
  | n, fuel + 1, i, p, h, e, hi => by
    unfold layClean.free
    cases c : (List.range (runEnd mask i + 1 - i)).find? fun k => (owner.getD (i + k) (some 0)).isNone with
    | some k =>
      refine ⟨i + k, by simp only [c], ?_⟩
      have := List.find?_some c
      rw [Option.isNone_iff_eq_none] at this
      rw [Array.getD_eq_getD_getElem?] at this
      cases q : owner[i + k]? with
      | none => rw [q] at this; cases this
      | some v => rw [q] at this; exact congrArg some this
    | none =>
      simp only [c]
      cases n with
      | zero =>
        have e : i = j0 := e
        have := List.find?_eq_none.mp c 0 (List.mem_range.mpr (by unfold runEnd; split <;> omega))
        rw [Nat.add_zero, e, Array.getD_eq_getD_getElem?, h0] at this
        exact absurd rfl this
      | succ n => exact free_some h0 n fuel _ _ (by omega) e (Nat.mod_lt _ (Nat.succ_pos _))
theorem set_perm : ∀ (l : List (Option Nat)) (j k : Nat), l[j]? = some none → ((l.set j (some k)).filterMap id).Perm (k :: l.filterMap id)
  | [], j, k, h => by simp at h
  | x :: l, 0, k, h => by
    have : x = none := by simpa using h
    subst this
    simp
  | x :: l, j + 1, k, h => by
    have ih := set_perm l j k (by simpa using h)
    rw [List.set_cons_succ]
    cases x with
    | none => simpa using ih
    | some v =>
      have ee : ∀ l' : List (Option Nat), (some v :: l').filterMap id = v :: l'.filterMap id := fun _ => rfl
      rw [ee, ee]
      exact (List.Perm.cons v ih).trans (List.Perm.swap k v _)
theorem none_slot : ∀ (l : List (Option Nat)), (l.filterMap id).length < l.length → ∃ j : Nat, l[j]? = some none
  | [], h => by simp at h
  | none :: l, _ => ⟨0, rfl⟩
  | some v :: l, h => by
    have ee : ∀ l' : List (Option Nat), (some v :: l').filterMap id = v :: l'.filterMap id := fun _ => rfl
    rw [ee, List.length_cons, List.length_cons] at h
    obtain ⟨j, hj⟩ := none_slot l (by omega)
    exact ⟨j + 1, by simpa using hj⟩
theorem lay_list {mask : Nat} (hf : Full (mask + 1) = true) : ∀ (l : List Int) (owner : Array (Option Nat)) (k : Nat), owner.size = mask + 1 → (owner.toList.filterMap id).Perm (List.range k) → k + l.length ≤ mask →
    ∃ owner', (l.foldl (init := (some (owner, k) : Option (Array (Option Nat) × Nat))) fun acc h => do
      let (owner, k) ← acc
      let j ← layClean.free mask owner (turns mask) (bits h % (mask + 1)) (bits h)
      pure (owner.setIfInBounds j (some k), k + 1)) = some (owner', k + l.length) ∧ owner'.size = mask + 1 ∧ (owner'.toList.filterMap id).Perm (List.range (k + l.length))
  | [], owner, k, h1, h2, _ => ⟨owner, rfl, h1, h2⟩
  | h :: l, owner, k, h1, h2, h3 => by
    rw [List.length_cons] at h3
    have hlen : (owner.toList.filterMap id).length = k := by rw [h2.length_eq, List.length_range]
    obtain ⟨j0, hj0⟩ := none_slot owner.toList (by rw [hlen, Array.length_toList]; omega)
    rw [Array.getElem?_toList] at hj0
    have hj0s : j0 < mask + 1 := by rw [← h1]; exact (Array.getElem?_eq_some_iff.mp hj0).1
    obtain ⟨n, hn, e⟩ := cover hf (i := bits h % (mask + 1)) (p := bits h) (Nat.mod_lt _ (Nat.succ_pos _)) (bits_lt h) hj0s
    obtain ⟨j, hj, hjn⟩ := free_some hj0 n (turns mask) _ _ (by unfold turns; omega) e (Nat.mod_lt _ (Nat.succ_pos _))
    have p2 : ((owner.setIfInBounds j (some k)).toList.filterMap id).Perm (List.range (k + 1)) := by
      rw [Array.toList_setIfInBounds]
      refine (set_perm owner.toList j k (by rw [Array.getElem?_toList]; exact hjn)).trans ?_
      rw [List.range_succ]
      exact (List.Perm.cons k h2).trans (List.perm_append_singleton k _).symm
    obtain ⟨owner', e1, e2, e3⟩ := lay_list hf l (owner.setIfInBounds j (some k)) (k + 1) (by rw [Array.size_setIfInBounds]; exact h1) p2 (by omega)
    refine ⟨owner', ?_, e2, ?_⟩
    · rw [List.foldl_cons]
      show List.foldl _ (do
        let j ← layClean.free mask owner (turns mask) (bits h % (mask + 1)) (bits h)
        pure (owner.setIfInBounds j (some k), k + 1)) l = _
      rw [hj]
      show List.foldl _ (some (owner.setIfInBounds j (some k), k + 1)) l = _
      rw [e1, List.length_cons]
      congr 2; omega
    · rw [List.length_cons, show k + (l.length + 1) = k + 1 + l.length by omega]
      exact e3
theorem range_getD (owner : Array (Option Nat)) : (List.range owner.size).filterMap (fun j => owner.getD j none) = owner.toList.filterMap id := by
  have : owner.toList = (List.range owner.size).map fun j => owner.getD j none := by
    refine List.ext_getElem (by simp) fun i h1 h2 => ?_
    simp at h1
    simp [Array.getD, h1]
  rw [this, List.filterMap_map]
  rfl
theorem laid_ok {mask finger moves : Nat} {led plain : Bool} {hashes : Array Int} (hf : Full (mask + 1) = true) (hs : hashes.size ≤ mask) :
    ∃ place order, laid mask finger moves led plain hashes = some ({ mask, place, dummies := #[], finger, led, moves, plain }, order) ∧ place.size = hashes.size ∧ order.toList.Perm (List.range hashes.size) := by
  obtain ⟨owner, e1, e2, e3⟩ := lay_list hf hashes.toList (Array.replicate (mask + 1) none) 0 (by simp) (by simp) (by simpa using hs)
  have ec : layClean mask hashes = some owner := by
    unfold layClean
    rw [← Array.foldl_toList, e1]
    rfl
  unfold laid
  rw [ec]
  refine ⟨_, _, rfl, ?_, ?_⟩
  · rw [List.size_toArray, List.length_map]
    have h1 : ((List.range (mask + 1)).filterMap fun j => (owner.getD j none).map (j, ·)).length = ((List.range (mask + 1)).filterMap fun j => owner.getD j none).length := by
      have : ((List.range (mask + 1)).filterMap fun j => owner.getD j none) = ((List.range (mask + 1)).filterMap fun j => (owner.getD j none).map (j, ·)).map (·.2) := by
        rw [List.map_filterMap]
        congr 1
        funext j
        cases owner.getD j none <;> rfl
      rw [this, List.length_map]
    rw [h1, ← e2, range_getD, e3.length_eq, List.length_range]
    simp
  · show (((List.range (mask + 1)).filterMap fun j => (owner.getD j none).map (j, ·)).map (·.2)).Perm _
    have : ((List.range (mask + 1)).filterMap fun j => (owner.getD j none).map (j, ·)).map (·.2) = ((List.range (mask + 1)).filterMap fun j => owner.getD j none) := by
      rw [List.map_filterMap]
      congr 1
      funext j
      cases owner.getD j none <;> rfl
    rw [this, ← e2, range_getD]
    simpa using e3
end SetM

end
section
set_option Elab.async false
set_option linter.all false
set_option maxRecDepth 100000
namespace SetM
open PySem PySem.SetTable
def Rise (xs : Array Nat) : Prop := ∀ i j (hj : j < xs.size) (h : i < j), xs[i] < xs[j]
theorem below_go {xs : Array Nat} (R : Rise xs) (j : Nat) : ∀ (fuel lo hi : Nat), hi ≤ xs.size → lo ≤ hi → hi - lo ≤ fuel →
    (∀ i (h : i < xs.size), i < lo → xs[i] < j) → (∀ i (h : i < xs.size), hi ≤ i → j ≤ xs[i]) →
    below.go xs j fuel lo hi ≤ xs.size ∧ (∀ i (h : i < xs.size), i < below.go xs j fuel lo hi → xs[i] < j) ∧ (∀ i (h : i < xs.size), below.go xs j fuel lo hi ≤ i → j ≤ xs[i])
  | 0, lo, hi, h1, h2, h3, h4, h5 => by
    have e : lo = hi := by omega
    subst e
    exact ⟨h1, h4, h5⟩
  | fuel + 1, lo, hi, h1, h2, h3, h4, h5 => by
    unfold below.go
    by_cases c : lo < hi
    · rw [if_pos c]
      have hm : (lo + hi) / 2 < xs.size := by omega
      have eg : xs.getD ((lo + hi) / 2) j = xs[(lo + hi) / 2] := by simp [Array.getD, hm]
      simp only [eg]
      by_cases d : xs[(lo + hi) / 2] < j
      · rw [if_pos d]
        refine below_go R j fuel _ hi h1 (by omega) (by omega) (fun i hi' hlt => ?_) h5
        by_cases e : i = (lo + hi) / 2
        · subst e; exact d
        · have := R i ((lo + hi) / 2) hm (by omega); omega
      · rw [if_neg d]
        refine below_go R j fuel lo _ (by omega) (by omega) (by omega) h4 (fun i hi' hle => ?_)
        by_cases e : i = (lo + hi) / 2
        · subst e; omega
        · have := R ((lo + hi) / 2) i hi' (by omega); omega
    · rw [if_neg c]
      have e : lo = hi := by omega
      subst e
      exact ⟨h1, h4, h5⟩
theorem below_le {xs : Array Nat} (R : Rise xs) (j : Nat) : below xs j ≤ xs.size ∧ (∀ i (h : i < xs.size), i < below xs j → xs[i] < j) ∧ (∀ i (h : i < xs.size), below xs j ≤ i → j ≤ xs[i]) :=
  below_go R j xs.size 0 xs.size (Nat.le_refl _) (Nat.zero_le _) (by omega) (fun i _ h => by omega) (fun i h h' => by omega)
/-- behind the place of i the next one is i + 1 -/
theorem below_succ {xs : Array Nat} (R : Rise xs) {i : Nat} (h : i < xs.size) : below xs (xs[i] + 1) = i + 1 := by
  obtain ⟨h1, h2, h3⟩ := below_le R (xs[i] + 1)
  have a : ¬ below xs (xs[i] + 1) ≤ i := fun c => by have := h3 i h c; omega
  have b : ¬ i + 1 < below xs (xs[i] + 1) := fun c => by
    have := h2 (i + 1) (by omega) c
    have := R i (i + 1) (by omega) (by omega)
    omega
  omega
theorem below_zero {xs : Array Nat} (R : Rise xs) : below xs 0 = 0 := by
  obtain ⟨h1, h2, h3⟩ := below_le R 0
  rcases Nat.eq_zero_or_pos (below xs 0) with e | e
  · exact e
  · have := h2 0 (by omega) e; omega
theorem insertAt_toList {α : Type} (xs : Array α) (p : Nat) (x : α) : (insertAt xs p x).toList = xs.toList.take p ++ x :: xs.toList.drop p := by
  unfold insertAt
  simp only [Array.toList_append, Array.toList_push, Array.toList_extract, List.append_assoc, List.singleton_append]
  congr 1
  · simp [List.extract]
    rw [List.take_of_length_le (by simp)]
theorem insertAt_perm {α : Type} (xs : Array α) (p : Nat) (x : α) : (insertAt xs p x).toList.Perm (x :: xs.toList) := by
  rw [insertAt_toList]
  refine (List.perm_middle).trans ?_
  rw [List.take_append_drop]
theorem insertAt_size {α : Type} (xs : Array α) (p : Nat) (x : α) : (insertAt xs p x).size = xs.size + 1 := by
  have := (insertAt_perm xs p x).length_eq
  simpa using this
theorem rise_iff (xs : Array Nat) : Rise xs ↔ xs.toList.Pairwise (· < ·) := by
  rw [List.pairwise_iff_getElem]
  constructor
  · intro h i j hi hj hij
    simp only [Array.length_toList] at hi hj
    simpa using h i j hj hij
  · intro h i j hj hij
    have := h i j (by simp; omega) (by simpa using hj) hij
    simpa using this
theorem rise_put {xs : Array Nat} (R : Rise xs) {j : Nat} (hj : j ∉ xs.toList) : Rise (insertAt xs (below xs j) j) := by
  obtain ⟨h1, h2, h3⟩ := below_le R j
  rw [rise_iff, insertAt_toList]
  have P := (rise_iff xs).mp R
  rw [List.pairwise_append]
  have lt : ∀ a ∈ xs.toList.take (below xs j), a < j := by
    intro a ha
    obtain ⟨i, hi⟩ := List.getElem?_of_mem ha
    obtain ⟨hl, e⟩ := List.getElem?_eq_some_iff.mp hi
    rw [List.length_take, Array.length_toList] at hl
    rw [List.getElem_take] at e
    subst e
    have := h2 i (by omega) (by omega)
    simpa using this
  have gt : ∀ a ∈ xs.toList.drop (below xs j), j < a := by
    intro a ha
    have hm : a ∈ xs.toList := List.mem_of_mem_drop ha
    obtain ⟨i, hi⟩ := List.getElem?_of_mem ha
    obtain ⟨hl, e⟩ := List.getElem?_eq_some_iff.mp hi
    rw [List.length_drop, Array.length_toList] at hl
    rw [List.getElem_drop] at e
    have := h3 (below xs j + i) (by omega) (by omega)
    have e' : xs[below xs j + i]'(by omega) = a := by simpa using e
    rw [e'] at this
    have : a ≠ j := fun c => hj (c ▸ hm)
    omega
  refine ⟨P.sublist (List.take_sublist _ _), ?_, ?_⟩
  · rw [List.pairwise_cons]
    exact ⟨fun a ha => gt a ha, P.sublist (List.drop_sublist _ _)⟩
  · intro a ha b hb
    rcases List.mem_cons.mp hb with rfl | hb
    · exact lt a ha
    · exact Nat.lt_trans (lt a ha) (gt b hb)
theorem empty_not {t : SetTable} (R : Rise t.place) {j : Nat} (h : t.slot j = .empty) : j ∉ t.place.toList := by
  intro hm
  obtain ⟨i, hi⟩ := List.getElem?_of_mem hm
  rw [Array.getElem?_toList] at hi
  obtain ⟨hl, e⟩ := Array.getElem?_eq_some_iff.mp hi
  obtain ⟨h1, h2, h3⟩ := below_le R j
  have b : below t.place j = i := by
    have a1 : ¬ i < below t.place j := fun c => by have := h2 i hl c; omega
    have a2 : ¬ below t.place j < i := fun c => by
      have := h3 (below t.place j) (by omega) (Nat.le_refl _)
      have := R _ i hl c
      omega
    omega
  unfold SetTable.slot at h
  simp only [b, hi] at h
  simp at h
/-- laid anew, the places rise -/
theorem laid_rise {mask finger moves : Nat} {led plain : Bool} {hashes : Array Int} {t : SetTable} {order : Array Nat} (h : laid mask finger moves led plain hashes = some (t, order)) : Rise t.place := by
  unfold laid at h
  cases ec : layClean mask hashes with
  | none => rw [ec] at h; cases h
  | some owner =>
    rw [ec] at h
    injection h with h
    injection h with h1 h2
    subst h1
    rw [rise_iff]
    show (((List.range (mask + 1)).filterMap fun j => (owner.getD j none).map (j, ·)).map (·.1)).Pairwise (· < ·)
    rw [List.map_filterMap]
    have hs : ∀ l : List Nat, (l.filterMap fun j => ((owner.getD j none).map (j, ·)).map (·.1)).Sublist l := by
      intro l
      induction l with
      | nil => exact List.Sublist.slnil
      | cons a l ih =>
        rw [List.filterMap_cons]
        cases owner.getD a none with
        | none => exact ih.cons _
        | some v => exact ih.cons_cons _
    exact List.Pairwise.sublist (hs _) List.pairwise_lt_range
/-! ### an order drawn from a text -/
theorem cons_erase_perm {α : Type} : ∀ (l : List α) (i : Nat) (h : i < l.length), (l[i] :: l.eraseIdx i).Perm l
  | a :: l, 0, h => by simp
  | a :: l, i + 1, h => by
    have ih := cons_erase_perm l i (by simpa using h)
    simp only [List.getElem_cons_succ, List.eraseIdx_cons_succ]
    exact (List.Perm.swap _ _ _).trans (List.Perm.cons a ih)
theorem pick_go {α : Type} (next : Nat → Nat) : ∀ (fuel k : Nat) (left : List α) (out : Array α), left.length ≤ fuel → (pickOrder.go next fuel k left out).toList.Perm (out.toList ++ left)
  | 0, k, left, out, h => by
    have : left = [] := List.length_eq_zero_iff.mp (by omega)
    subst this
    unfold pickOrder.go
    rw [List.append_nil]
  | fuel + 1, k, left, out, h => by
    unfold pickOrder.go
    cases c : left[next k % left.length]? with
    | none =>
      have : left = [] := by
        rcases left with _ | ⟨a, l⟩
        · rfl
        · rw [List.getElem?_eq_none_iff] at c
          have := Nat.mod_lt (next k) (show 0 < (a :: l).length by simp)
          omega
      subst this
      simp
    | some x =>
      obtain ⟨hl, e⟩ := List.getElem?_eq_some_iff.mp c
      have ih := pick_go next fuel (k + 1) (left.eraseIdx (next k % left.length)) (out.push x) (by rw [List.length_eraseIdx_of_lt hl]; omega)
      refine ih.trans ?_
      rw [Array.toList_push, List.append_assoc]
      refine List.Perm.append_left _ ?_
      rw [List.singleton_append, ← e]
      exact cons_erase_perm _ _ hl
theorem pick_perm {α : Type} (next : Nat → Nat) (xs : Array α) : (pickOrder next xs).toList.Perm xs.toList := by
  have := pick_go next xs.size 0 xs.toList #[] (by simp)
  simpa [pickOrder] using this
end SetM

end
section
set_option Elab.async false
set_option linter.all false
set_option maxRecDepth 100000
namespace SetM
open PySem PySem.SetTable
/-! ### the way of a probe -/
def T0 (mask : Nat) : SetTable := { mask, place := #[], dummies := #[], finger := 0, led := false, moves := 0, plain := false }
theorem adv_T0 (t : SetTable) : ∀ (d : Nat) (p : Probe), adv t d p = adv (T0 t.mask) d p
  | 0, _ => rfl
  | d + 1, p => adv_T0 t d (t.advance p)
/-- where the d-th step of a probe for h looks -/
def pos (mask : Nat) (h : Int) (d : Nat) : Nat := (adv (T0 mask) d ((T0 mask).probeStart h)).j
theorem pos_of (t : SetTable) (h : Int) (d : Nat) : (adv t d (t.probeStart h)).j = pos t.mask h d := by
  rw [adv_T0]; rfl
/-- a probe for h comes to j, through slots that are taken -/
def Path (mask : Nat) (occ : Nat → Prop) (h : Int) (j : Nat) : Prop := ∃ d, d < 10 * turns mask ∧ pos mask h d = j ∧ ∀ e < d, occ (pos mask h e)
theorem Path.mono {mask : Nat} {occ occ' : Nat → Prop} {h : Int} {j : Nat} (x : Path mask occ h j) (s : ∀ i, occ i → occ' i) : Path mask occ' h j :=
  let ⟨d, h1, h2, h3⟩ := x; ⟨d, h1, h2, fun e he => s _ (h3 e he)⟩
def Paths (mask : Nat) (place : List Nat) (hs : List Int) : Prop := ∀ q ∈ hs.zip place, Path mask (· ∈ place) q.1 q.2
theorem slot_ne {t : SetTable} (hd : t.dummies = #[]) (R : Rise t.place) (j : Nat) : t.slot j ≠ .empty ↔ j ∈ t.place.toList := by
  constructor
  · intro h
    rcases slot_cases t hd j with e | ⟨i, _, e⟩
    · exact absurd e h
    · exact Array.mem_toList_iff.mpr (Array.mem_of_getElem? e)
  · intro h e
    exact empty_not R e h
theorem slot_live {t : SetTable} (R : Rise t.place) {i j : Nat} (h : t.place[i]? = some j) : t.slot j = .live i := by
  obtain ⟨hl, e⟩ := Array.getElem?_eq_some_iff.mp h
  obtain ⟨h1, h2, h3⟩ := below_le R j
  have b : below t.place j = i := by
    have a1 : ¬ i < below t.place j := fun c => by have := h2 i hl c; omega
    have a2 : ¬ below t.place j < i := fun c => by
      have := h3 (below t.place j) (by omega) (Nat.le_refl _)
      have := R _ i hl c
      omega
    omega
  unfold SetTable.slot
  simp only [b, h]
  simp
theorem advance_dummy (t : SetTable) {p : Probe} (h : p.dummy = none) : (t.advance p).dummy = none := by
  unfold SetTable.advance
  split <;> exact h
theorem probe_path {t : SetTable} (hd : t.dummies = #[]) (hashAt : Nat → Int) (h : Int) : ∀ (fuel d : Nat) (p : Probe), p.dummy = none → d < fuel → t.slot (adv t d p).j = .empty →
    (∃ e, e ≤ d ∧ probe.go t hashAt h fuel p = some (.empty (adv t e p).j none) ∧ t.slot (adv t e p).j = .empty ∧ ∀ e' < e, t.slot (adv t e' p).j ≠ .empty) ∨
    (∃ i e, e < d ∧ probe.go t hashAt h fuel p = some (.candidate (adv t e p).j i (adv t (e + 1) p)) ∧ t.slot (adv t e p).j = .live i ∧ t.place[i]? = some (adv t e p).j ∧ hashAt i = h ∧ ∀ e' ≤ e, t.slot (adv t e' p).j ≠ .empty)
  | 0, d, p, _, hlt, _ => by omega
  | fuel + 1, d, p, hp, hlt, hs => by
    unfold probe.go
    rcases slot_cases t hd p.j with e | ⟨i, e, hi⟩
    · left
      refine ⟨0, Nat.zero_le _, ?_, e, fun e' he => by omega⟩
      rw [e, hp]
      rfl
    · cases d with
      | zero =>
        have : t.slot p.j = .empty := hs
        rw [e] at this
        cases this
      | succ d =>
        rw [e]
        by_cases c : (hashAt i == h) = true
        · right
          refine ⟨i, 0, by omega, ?_, e, hi, beq_iff_eq.mp c, fun e' he => ?_⟩
          · simp only [c, if_true]
            rfl
          · have : e' = 0 := by omega
            subst this
            show t.slot p.j ≠ _
            rw [e]
            exact fun z => by cases z
        · simp only [c, Bool.false_eq_true, if_false]
          have first : t.slot p.j ≠ .empty := by rw [e]; exact fun z => by cases z
          rcases probe_path hd hashAt h fuel d (t.advance p) (advance_dummy t hp) (by omega) hs with ⟨e', h1, h2, h3, h4⟩ | ⟨i', e', h1, h2, h3, h4, h5, h6⟩
          · refine .inl ⟨e' + 1, by omega, h2, h3, fun k hk => ?_⟩
            cases k with
            | zero => exact first
            | succ k => exact h4 k (by omega)
          · refine .inr ⟨i', e' + 1, by omega, h2, h3, h4, h5, fun k hk => ?_⟩
            cases k with
            | zero => exact first
            | succ k => exact h6 k (by omega)
theorem probe_hit {t : SetTable} (hd : t.dummies = #[]) (hashAt : Nat → Int) (h : Int) : ∀ (fuel d : Nat) (p : Probe), d < fuel → (∀ e ≤ d, t.slot (adv t e p).j ≠ .empty) → (∃ i0, t.slot (adv t d p).j = .live i0 ∧ hashAt i0 = h) →
    ∃ i e, e ≤ d ∧ probe.go t hashAt h fuel p = some (.candidate (adv t e p).j i (adv t (e + 1) p)) ∧ t.slot (adv t e p).j = .live i ∧ t.place[i]? = some (adv t e p).j ∧ hashAt i = h
  | 0, d, p, hlt, _, _ => by omega
  | fuel + 1, d, p, hlt, hs, hi0 => by
    unfold probe.go
    rcases slot_cases t hd p.j with e | ⟨i, e, hi⟩
    · exact absurd e (hs 0 (Nat.zero_le _))
    · rw [e]
      by_cases c : (hashAt i == h) = true
      · refine ⟨i, 0, Nat.zero_le _, ?_, e, hi, beq_iff_eq.mp c⟩
        simp only [c, if_true]
        rfl
      · simp only [c, Bool.false_eq_true, if_false]
        cases d with
        | zero =>
          obtain ⟨i0, h1, h2⟩ := hi0
          have h1 : t.slot p.j = .live i0 := h1
          rw [e] at h1
          injection h1 with h1
          subst h1
          exact absurd (beq_iff_eq.mpr h2) c
        | succ d =>
          obtain ⟨i', e', h1, h2, h3, h4, h5⟩ := probe_hit hd hashAt h fuel d (t.advance p) (by omega) (fun k hk => hs (k + 1) (by omega)) hi0
          exact ⟨i', e' + 1, by omega, h2, h3, h4, h5⟩
/-! ### a table laid anew: each path is closed -/
theorem adv_in_run (mask i p : Nat) : ∀ (k m j : Nat), k ≤ m → adv (T0 mask) k { j := j, more := m, i, perturb := p, dummy := none } = { j := j + k, more := m - k, i, perturb := p, dummy := none }
  | 0, m, j, _ => rfl
  | k + 1, m, j, h => by
    cases m with
    | zero => omega
    | succ m =>
      show adv (T0 mask) k ((T0 mask).advance { j := j, more := m + 1, i, perturb := p, dummy := none }) = _
      have : (T0 mask).advance { j := j, more := m + 1, i, perturb := p, dummy := none } = { j := j + 1, more := m, i, perturb := p, dummy := none } := by
        unfold SetTable.advance
        rw [if_pos (by simp)]
        rfl
      rw [this, adv_in_run mask i p k m (j + 1) (by omega)]
      congr 1 <;> omega
theorem free_path {mask : Nat} {owner : Array (Option Nat)} : ∀ (fuel i p j : Nat), layClean.free mask owner fuel i p = some j →
    ∃ d, d < 10 * fuel ∧ (adv (T0 mask) d (runAt (T0 mask) i p)).j = j ∧ owner.getD j (some 0) = none ∧ ∀ e < d, owner.getD (adv (T0 mask) e (runAt (T0 mask) i p)).j (some 0) ≠ none
  | 0, i, p, j, h => by unfold layClean.free at h; cases h
  | fuel + 1, i, p, j, h => by
    unfold layClean.free at h
    have hm := more_le mask i
    cases c : (List.range (runEnd mask i + 1 - i)).find? fun k => (owner.getD (i + k) (some 0)).isNone with
    | some k =>
      rw [c] at h
      simp only [Option.some.injEq] at h
      subst h
      have hk := List.find?_some c
      have hkm := List.mem_range.mp (List.mem_of_find?_eq_some c)
      have before : ∀ k' < k, owner.getD (i + k') (some 0) ≠ none := by
        intro k' hk' e
        have := List.find?_range_eq_some.mp c
        have h3 := this.2.2 k' hk'
        rw [e] at h3
        simp at h3
      have inrun : ∀ k' ≤ k, (adv (T0 mask) k' (runAt (T0 mask) i p)).j = i + k' := fun k' hk' => by
        have := adv_in_run mask i p k' (runEnd mask i - i) i (by omega)
        show (adv (T0 mask) k' { j := i, more := runEnd mask i - i, i, perturb := p, dummy := none }).j = _
        rw [this]
      refine ⟨k, by omega, inrun k (Nat.le_refl _), by simpa using hk, fun e he => ?_⟩
      rw [inrun e (by omega)]
      exact before e he
    | none =>
      rw [c] at h
      have none_run : ∀ k' < runEnd mask i + 1 - i, owner.getD (i + k') (some 0) ≠ none := fun k' hk' e => by
        have := List.find?_eq_none.mp c k' (List.mem_range.mpr hk')
        rw [e] at this
        exact this rfl
      obtain ⟨d, h1, h2, h3, h4⟩ := free_path fuel _ _ j h
      have leapE : adv (T0 mask) (runEnd mask i - i + 1) (runAt (T0 mask) i p) = runAt (T0 mask) (leap mask i p).1 (leap mask i p).2 := adv_run (T0 mask) i p _ i 0
      refine ⟨runEnd mask i - i + 1 + d, by omega, ?_, h3, fun e he => ?_⟩
      · rw [adv_add, leapE]; exact h2
      · by_cases ce : e ≤ runEnd mask i - i
        · have := adv_in_run mask i p e (runEnd mask i - i) i ce
          have e2 : (adv (T0 mask) e (runAt (T0 mask) i p)).j = i + e := by
            show (adv (T0 mask) e { j := i, more := runEnd mask i - i, i, perturb := p, dummy := none }).j = _
            rw [this]
          rw [e2]
          refine none_run e ?_
          have : i ≤ runEnd mask i := by unfold runEnd; split <;> omega
          omega
        · have e3 : e = runEnd mask i - i + 1 + (e - (runEnd mask i - i + 1)) := by omega
          rw [e3, adv_add, leapE]
          exact h4 _ (by omega)
end SetM

end
section
set_option Elab.async false
set_option linter.all false
set_option maxRecDepth 100000
namespace SetM
open PySem PySem.SetTable
def In (mask : Nat) (p : Probe) : Prop := p.j + p.more ≤ mask ∧ p.i ≤ mask
theorem in_run (mask i p : Nat) (hi : i ≤ mask) : In mask { j := i, more := runEnd mask i - i, i, perturb := p, dummy := none } := by
  refine ⟨?_, hi⟩
  show i + (runEnd mask i - i) ≤ mask
  unfold runEnd
  split <;> omega
theorem in_adv (mask : Nat) : ∀ (d : Nat) (p : Probe), In mask p → In mask (adv (T0 mask) d p)
  | 0, _, h => h
  | d + 1, p, h => by
    refine in_adv mask d _ ?_
    unfold SetTable.advance
    by_cases c : p.more > 0
    · rw [if_pos c]
      obtain ⟨h1, h2⟩ := h
      exact ⟨by show p.j + 1 + (p.more - 1) ≤ mask; omega, h2⟩
    · rw [if_neg c]
      have : (leap mask p.i p.perturb).1 ≤ mask := by
        have := Nat.mod_lt (p.i * 5 + 1 + p.perturb / 32) (show 0 < mask + 1 by omega)
        show (p.i * 5 + 1 + p.perturb / 32) % (mask + 1) ≤ mask
        omega
      exact ⟨(in_run mask _ 0 this).1, this⟩
theorem pos_lt (mask : Nat) (h : Int) (d : Nat) : pos mask h d < mask + 1 := by
  have h0 : bits h % (mask + 1) ≤ mask := by have := Nat.mod_lt (bits h) (show 0 < mask + 1 by omega); omega
  have := in_adv mask d _ (in_run mask (bits h % (mask + 1)) (bits h) h0)
  have h2 : In mask (adv (T0 mask) d ((T0 mask).probeStart h)) := this
  have := h2.1
  unfold pos
  omega
def occ (owner : Array (Option Nat)) (j : Nat) : Prop := ∃ k, owner[j]? = some (some k)
theorem occ_of {owner : Array (Option Nat)} {j : Nat} (hj : j < owner.size) (h : owner.getD j (some 0) ≠ none) : occ owner j := by
  rw [Array.getD_eq_getD_getElem?] at h
  have e : owner[j]? = some owner[j] := by simp [hj]
  rw [e] at h
  cases c : owner[j] with
  | none => rw [c] at h; exact absurd rfl h
  | some k => exact ⟨k, by rw [e, c]⟩
/-- what is laid lies where its probe comes to -/
def LayInv (mask : Nat) (hs : List Int) (owner : Array (Option Nat)) : Prop := ∀ j k, owner[j]? = some (some k) → ∃ h, hs[k]? = some h ∧ Path mask (occ owner) h j
theorem lay_paths {mask : Nat} (hf : Full (mask + 1) = true) (hs : List Int) : ∀ (l : List Int) (owner : Array (Option Nat)) (k : Nat), hs.drop k = l → owner.size = mask + 1 → (owner.toList.filterMap id).Perm (List.range k) → k + l.length ≤ mask → LayInv mask hs owner →
    ∃ owner', (l.foldl (init := (some (owner, k) : Option (Array (Option Nat) × Nat))) fun acc h => do
      let (owner, k) ← acc
      let j ← layClean.free mask owner (turns mask) (bits h % (mask + 1)) (bits h)
      pure (owner.setIfInBounds j (some k), k + 1)) = some (owner', k + l.length) ∧ owner'.size = mask + 1 ∧ (owner'.toList.filterMap id).Perm (List.range (k + l.length)) ∧ LayInv mask hs owner'
  | [], owner, k, _, h1, h2, _, h4 => ⟨owner, rfl, h1, h2, h4⟩
  | h :: l, owner, k, hk, h1, h2, h3, h4 => by
    rw [List.length_cons] at h3
    have hlen : (owner.toList.filterMap id).length = k := by rw [h2.length_eq, List.length_range]
    obtain ⟨j0, hj0⟩ := none_slot owner.toList (by rw [hlen, Array.length_toList]; omega)
    rw [Array.getElem?_toList] at hj0
    have hj0s : j0 < mask + 1 := by rw [← h1]; exact (Array.getElem?_eq_some_iff.mp hj0).1
    obtain ⟨n, hn, e⟩ := cover hf (i := bits h % (mask + 1)) (p := bits h) (Nat.mod_lt _ (Nat.succ_pos _)) (bits_lt h) hj0s
    obtain ⟨j, hj, hjn⟩ := free_some hj0 n (turns mask) _ _ (by unfold turns; omega) e (Nat.mod_lt _ (Nat.succ_pos _))
    obtain ⟨d, d1, d2, d3, d4⟩ := free_path (turns mask) _ _ j hj
    have hks : hs[k]? = some h := by
      have := congrArg (·[0]?) hk
      simp only [List.getElem?_drop, Nat.add_zero, List.getElem?_cons_zero] at this
      exact this
    have hjs : j < owner.size := (Array.getElem?_eq_some_iff.mp hjn).1
    have grow : ∀ i, occ owner i → occ (owner.setIfInBounds j (some k)) i := fun i ⟨k', e'⟩ => by
      by_cases c : j = i
      · subst c; rw [hjn] at e'; cases e'
      · exact ⟨k', by rw [Array.getElem?_setIfInBounds_ne c]; exact e'⟩
    have p2 : ((owner.setIfInBounds j (some k)).toList.filterMap id).Perm (List.range (k + 1)) := by
      rw [Array.toList_setIfInBounds]
      refine (set_perm owner.toList j k (by rw [Array.getElem?_toList]; exact hjn)).trans ?_
      rw [List.range_succ]
      exact (List.Perm.cons k h2).trans (List.perm_append_singleton k _).symm
    have i2 : LayInv mask hs (owner.setIfInBounds j (some k)) := by
      intro i k' e'
      by_cases c : j = i
      · subst c
        rw [Array.getElem?_setIfInBounds_self_of_lt hjs] at e'
        cases e'
        refine ⟨h, hks, d, d1, d2, fun e he => grow _ (occ_of (by rw [h1]; exact pos_lt mask h e) (d4 e he))⟩
      · rw [Array.getElem?_setIfInBounds_ne c] at e'
        obtain ⟨h', a1, a2⟩ := h4 i k' e'
        exact ⟨h', a1, a2.mono grow⟩
    obtain ⟨owner', e1, e2, e3, e4⟩ := lay_paths hf hs l (owner.setIfInBounds j (some k)) (k + 1) (by rw [← List.drop_drop, hk]; rfl) (by rw [Array.size_setIfInBounds]; exact h1) p2 (by omega) i2
    refine ⟨owner', ?_, e2, ?_, e4⟩
    · rw [List.foldl_cons]
      show List.foldl _ (do
        let j ← layClean.free mask owner (turns mask) (bits h % (mask + 1)) (bits h)
        pure (owner.setIfInBounds j (some k), k + 1)) l = _
      rw [hj]
      show List.foldl _ (some (owner.setIfInBounds j (some k), k + 1)) l = _
      rw [e1, List.length_cons]
      congr 2; omega
    · rw [List.length_cons, show k + (l.length + 1) = k + 1 + l.length by omega]
      exact e3
theorem zip_live {α : Type} (es : Array (Int × α)) : ∀ (l : List (Nat × Nat)), (∀ p ∈ l, p.2 < es.size) →
    ∀ q ∈ ((((l.map (·.2)).filterMap (es[·]?)).map (·.1)).zip (l.map (·.1))), ∃ p ∈ l, q.2 = p.1 ∧ ∃ e, es[p.2]? = some e ∧ q.1 = e.1
  | [], _, q, hq => by simp at hq
  | (j, k) :: l, h, q, hq => by
    have hk : k < es.size := h (j, k) (by simp)
    have e : es[k]? = some es[k] := by simp [hk]
    simp only [List.map_cons, List.filterMap_cons, e, List.zip_cons_cons, List.mem_cons] at hq
    rcases hq with rfl | hq
    · exact ⟨(j, k), by simp, rfl, es[k], e, rfl⟩
    · obtain ⟨p, hp, r⟩ := zip_live es l (fun p hp => h p (List.mem_cons_of_mem _ hp)) q hq
      exact ⟨p, List.mem_cons_of_mem _ hp, r⟩
theorem laid_paths {α : Type} {mask finger moves : Nat} {led plain : Bool} {es : Array (Int × α)} (hf : Full (mask + 1) = true) (hs : es.size ≤ mask) {t : SetTable} {order : Array Nat} (h : laid mask finger moves led plain (es.map (·.1)) = some (t, order)) :
    Paths mask t.place.toList ((order.filterMap (es[·]?)).toList.map (·.1)) := by
  obtain ⟨owner, e1, e2, e3, e4⟩ := lay_paths hf (es.map (·.1)).toList (es.map (·.1)).toList (Array.replicate (mask + 1) none) 0 rfl (by simp) (by simp) (by simpa using hs) (by
    intro j k e
    rw [Array.getElem?_replicate] at e
    split at e <;> cases e)
  have ec : layClean mask (es.map (·.1)) = some owner := by
    unfold layClean
    rw [← Array.foldl_toList, e1]
    rfl
  unfold laid at h
  rw [ec] at h
  injection h with h
  injection h with g1 g2
  subst g1 g2
  show Paths mask (((List.range (mask + 1)).filterMap fun j => (owner.getD j none).map (j, ·)).map (·.1)) _
  generalize hl : ((List.range (mask + 1)).filterMap fun j => (owner.getD j none).map (j, ·)) = live
  have mem : ∀ p, p ∈ live ↔ owner[p.1]? = some (some p.2) := by
    intro p
    rw [← hl, List.mem_filterMap]
    constructor
    · rintro ⟨j, hj, e⟩
      have hj := List.mem_range.mp hj
      rw [Array.getD_eq_getD_getElem?] at e
      have ej : owner[j]? = some (owner[j]'(by omega)) := by simp [show j < owner.size by omega]
      rw [ej] at e
      cases c : owner[j]'(by omega) with
      | none => rw [c] at e; cases e
      | some k => rw [c] at e; cases e; rw [ej, c]
    · intro e
      have hj : p.1 < owner.size := (Array.getElem?_eq_some_iff.mp e).1
      refine ⟨p.1, List.mem_range.mpr (by omega), ?_⟩
      rw [Array.getD_eq_getD_getElem?, e]
      rfl
  have small : ∀ p ∈ live, p.2 < es.size := by
    intro p hp
    obtain ⟨h', a1, _⟩ := e4 p.1 p.2 ((mem p).mp hp)
    have := (List.getElem?_eq_some_iff.mp a1).1
    simpa using this
  intro q hq
  rw [Array.toList_filterMap] at hq
  obtain ⟨p, hp, r1, e, r2, r3⟩ := zip_live es live small q hq
  obtain ⟨h', a1, a2⟩ := e4 p.1 p.2 ((mem p).mp hp)
  have eh : h' = e.1 := by
    have : (es.map (·.1)).toList[p.2]? = some e.1 := by
      rw [Array.getElem?_toList, Array.getElem?_map, r2]; rfl
    rw [this] at a1
    exact (Option.some.inj a1).symm
  rw [r1, r3, ← eh]
  refine a2.mono fun i ⟨k', e'⟩ => ?_
  exact List.mem_map.mpr ⟨(i, k'), (mem (i, k')).mpr e', rfl⟩
theorem zip_take {α β : Type} : ∀ (l : List α) (m : List β) (n : Nat), (l.take n).zip (m.take n) = (l.zip m).take n
  | [], m, n => by simp
  | a :: l, [], n => by simp
  | a :: l, b :: m, 0 => by simp
  | a :: l, b :: m, n + 1 => by simp [zip_take l m n]
theorem zip_drop {α β : Type} : ∀ (l : List α) (m : List β) (n : Nat), (l.drop n).zip (m.drop n) = (l.zip m).drop n
  | [], m, n => by simp
  | a :: l, [], n => by simp
  | a :: l, b :: m, 0 => by simp
  | a :: l, b :: m, n + 1 => by simp [zip_drop l m n]
/-- .. and so it stays when a slot on the way is taken -/
theorem paths_put {mask : Nat} {place : Array Nat} {α : Type} {es : Array (Int × α)} {h : Int} {x : α} {j p : Nat} (hsz : es.size = place.size) (hp : Paths mask place.toList (es.toList.map (·.1))) (hj : Path mask (· ∈ place.toList) h j) :
    Paths mask (insertAt place p j).toList ((insertAt es p (h, x)).toList.map (·.1)) := by
  have sub : ∀ i, i ∈ place.toList → i ∈ (insertAt place p j).toList := fun i hi => (insertAt_perm place p j).mem_iff.mpr (List.mem_cons_of_mem _ hi)
  intro q hq
  rw [insertAt_toList, insertAt_toList, List.map_append, List.map_cons] at hq
  rw [List.zip_append (by simp [hsz]), List.zip_cons_cons] at hq
  rcases List.mem_append.mp hq with hq | hq
  · refine (hp q ?_).mono sub
    have e : ((es.toList.take p).map (·.1)).zip (place.toList.take p) = ((es.toList.map (·.1)).zip place.toList).take p := by
      rw [List.map_take, zip_take]
    rw [e] at hq
    exact List.mem_of_mem_take hq
  · rcases List.mem_cons.mp hq with rfl | hq
    · exact hj.mono sub
    · refine (hp q ?_).mono sub
      have e : ((es.toList.drop p).map (·.1)).zip (place.toList.drop p) = ((es.toList.map (·.1)).zip place.toList).drop p := by
        rw [List.map_drop, zip_drop]
      rw [e] at hq
      exact List.mem_of_mem_drop hq
end SetM

end
section
set_option Elab.async false
set_option linter.all false
set_option maxRecDepth 100000
namespace SetM
open PySem PySem.SetTable
/-- a table as growing leaves it: nothing taken out -/
structure TabOk (t : SetTable) (n : Nat) : Prop where
  dm : t.dummies = #[]
  sz : t.place.size = n
  ms : (t.mask = 7 ∧ n ≤ 4) ∨ (t.mask = 31 ∧ n ≤ 18) ∨ (t.mask = 127 ∧ n ≤ 76) ∨ (t.mask = 511 ∧ n ≤ 306)
  ri : Rise t.place
theorem TabOk.full {t : SetTable} {n : Nat} (T : TabOk t n) : Full (t.mask + 1) = true := by
  rcases T.ms with ⟨h, _⟩ | ⟨h, _⟩ | ⟨h, _⟩ | ⟨h, _⟩ <;> rw [h]
  · exact full8
  · exact full32
  · exact full128
  · exact full512
theorem TabOk.le {t : SetTable} {n : Nat} (T : TabOk t n) : t.place.size ≤ t.mask := by
  rw [T.sz]
  rcases T.ms with ⟨h, _⟩ | ⟨h, _⟩ | ⟨h, _⟩ | ⟨h, _⟩ <;> omega
theorem TabOk.fits {t : SetTable} {n : Nat} (T : TabOk t n) : t.fits n = true := by
  have := T.le
  simp only [SetTable.fits, SetTable.fill, T.dm, T.sz, Bool.and_eq_true, beq_iff_eq, decide_eq_true_eq]
  exact ⟨trivial, by rw [T.sz] at this; simpa using this⟩
theorem TabOk.odd {t : SetTable} {n : Nat} (T : TabOk t n) : t.gaveWay = false := by
  unfold SetTable.gaveWay
  rcases T.ms with ⟨h, _⟩ | ⟨h, _⟩ | ⟨h, _⟩ | ⟨h, _⟩ <;> rw [h] <;> rfl
/-- a table, with slots that were given up -/
structure TabD (t : SetTable) (n : Nat) : Prop where
  sz : t.place.size = n
  fl : t.place.size + t.dummies.size ≤ t.mask
  od : t.mask % 2 = 1
  le : t.mask ≤ 511
  ri : Rise t.place
  rd : Rise t.dummies
  dj : ∀ j ∈ t.place.toList, j ∉ t.dummies.toList
theorem TabD.fits {t : SetTable} {n : Nat} (T : TabD t n) : t.fits n = true := by
  have := T.fl
  simp only [SetTable.fits, SetTable.fill, T.sz, Bool.and_eq_true, beq_iff_eq, decide_eq_true_eq]
  exact ⟨trivial, by rw [T.sz] at this; exact this⟩
theorem TabD.odd {t : SetTable} {n : Nat} (T : TabD t n) : t.gaveWay = false := by
  unfold SetTable.gaveWay
  rw [T.od]; rfl
theorem TabD.small {t : SetTable} {n : Nat} (T : TabD t n) : n ≤ 511 := by
  have h1 := T.fl
  have h2 := T.sz
  have h3 := T.le
  omega
theorem TabOk.toD {t : SetTable} {n : Nat} (T : TabOk t n) : TabD t n := by
  refine ⟨T.sz, ?_, ?_, ?_, T.ri, ?_, ?_⟩
  · rw [T.dm]; simpa using T.le
  · rcases T.ms with ⟨h, _⟩ | ⟨h, _⟩ | ⟨h, _⟩ | ⟨h, _⟩ <;> rw [h]
  · rcases T.ms with ⟨h, _⟩ | ⟨h, _⟩ | ⟨h, _⟩ | ⟨h, _⟩ <;> rw [h] <;> decide
  · rw [T.dm]; intro i j hj; simp at hj
  · rw [T.dm]; intro j _ h; simp at h
theorem adv_dummy (t : SetTable) : ∀ (d : Nat) (p : Probe), p.dummy = none → (adv t d p).dummy = none
  | 0, _, h => h
  | d + 1, p, h => adv_dummy t d _ (by unfold SetTable.advance; split <;> exact h)
section
variable {prog : Program} {w : World} {A : Around} {E : Value → Shared → Prop} {s : Shared}
abbrev ik (prog : Program) (w : World) := intKind prog w
abbrev hashT (prog : Program) (w : World) (ks : List Int) : Int := tupleKeyHash (ik prog w) ks
theorem items_mem {ks : List Int} {vs : List Value} (h : ItemsAre (ik prog w) ks vs) : ∀ v ∈ vs, ∃ k, (ik prog w).is k v = true := by
  induction h with
  | nil => intro v hv; cases hv
  | cons h1 _ ih =>
    intro v hv
    rcases List.mem_cons.mp hv with rfl | hv
    · exact ⟨_, h1⟩
    · exact ih v hv
theorem class_quiet {ks : List Int} {a : Addr} {Q : Bool → Shared → Prop} (hk : IsTupleKey (ik prog w) s.heap ks a) (h : Q false s) : wpAny (model prog w) A (ofAClassStatement 8 (.ref a)) Q E s := by
  have hT := hk.typeIs
  obtain ⟨o, items, n, ho, _, hd, hi⟩ := hk
  unfold ofAClassStatement
  refine wpAny_bind (wpAny_typeOf hT ?_)
  show wpAny _ _ (do
      let underTuple ← if ("tuple" : String) == "tuple" then pure true else isSubtype (.type "tuple") (.type "tuple")
      if !underTuple then return false
      let some items ← seqItems? (.ref a) | return true
      for y in items do
        if ← ofAClassStatement 7 y then return true
      return false) Q E s
  rw [if_pos (by rfl)]
  refine wpAny_bind (wpAny_pure ?_)
  simp only [Bool.not_true, Bool.false_eq_true, if_false]
  refine wpAny_bind (wpAny_seqItems ho hd ?_)
  show wpAny _ _ (do
      for y in items do
        if ← ofAClassStatement 7 y then return true
      return false) Q E s
  refine wpAny_bind ?_
  rw [← Array.forIn_toList]
  refine wpAny_forIn_list _ (fun rest r s' => r.1 = none ∧ s' = s ∧ ∀ v ∈ rest, ∃ k, (ik prog w).is k v = true) _ ?_ ?_ _ _ ⟨rfl, rfl, items_mem hi⟩
  · rintro v rest r s' ⟨hr, rfl, hall⟩
    obtain ⟨k, hk⟩ := hall v List.mem_cons_self
    have : ofAClassStatement 7 v = pure false := by
      have hk : Value.isInt k v = true := hk
      cases v <;> first | rfl | exact absurd (show false = true from hk) Bool.false_ne_true
    rw [this]
    refine wpAny_bind (wpAny_pure ?_)
    simp only [Bool.false_eq_true, if_false]
    exact wpAny_pure ⟨rfl, rfl, fun u hu' => hall u (List.mem_cons_of_mem _ hu')⟩
  · rintro ⟨r1, r2⟩ s' ⟨hr, rfl, _⟩
    simp only at hr
    subst hr
    exact wpAny_pure h
/-- a search among tuples of ints shows nothing -/
theorem unseen {ks : List Int} {c : Addr} {Q : Bool → Shared → Prop} (hk : IsTupleKey (ik prog w) s.heap ks c) (l : List Value) (hl : ∀ y ∈ l, ∃ ks' b, y = .ref b ∧ IsTupleKey (ik prog w) s.heap ks' b) (h : Q false s) :
    wpAny (model prog w) A (searchCouldBeSeen (.ref c) l) Q E s := by
  unfold searchCouldBeSeen
  refine wpAny_bind ?_
  refine wpAny_forIn_list _ (fun rest r s' => r.1 = none ∧ s' = s ∧ ∀ y ∈ rest, ∃ ks' b, y = .ref b ∧ IsTupleKey (ik prog w) s.heap ks' b) _ ?_ ?_ _ _ ⟨rfl, rfl, hl⟩
  · rintro y rest r s' ⟨hr, rfl, hall⟩
    obtain ⟨ks', b, rfl, hb⟩ := hall y List.mem_cons_self
    have fin : ∀ y ∈ rest, ∃ ks' b, y = .ref b ∧ IsTupleKey (ik prog w) s'.heap ks' b := fun u hu' => hall u (List.mem_cons_of_mem _ hu')
    dsimp only
    by_cases cb : (c == b) = true
    · simp only [cb, Bool.true_or, if_true]
      exact wpAny_pure ⟨rfl, rfl, fin⟩
    · have e1 : (c == b) = false := by simpa using cb
      have e2 : (carriedByValue (Value.ref c) && carriedByValue (Value.ref b)) = false := rfl
      simp only [e1, e2, Bool.or_self, Bool.false_eq_true, if_false]
      refine wpAny_bind (wpAny_eqIsQuiet_tuple hk ?_)
      simp only [Bool.not_true, Bool.false_eq_true, if_false]
      refine wpAny_bind (wpAny_eqIsQuiet_tuple hb ?_)
      simp only [Bool.not_true, Bool.false_eq_true, if_false]
      refine wpAny_bind (class_quiet hk ?_)
      simp only [Bool.false_eq_true, if_false]
      refine wpAny_bind (class_quiet hb ?_)
      simp only [Bool.false_eq_true, if_false]
      exact wpAny_pure ⟨rfl, rfl, fin⟩
  · rintro ⟨r1, r2⟩ s' ⟨hr, rfl, _⟩
    simp only at hr
    subst hr
    exact wpAny_pure h
/-- an element: a tuple of ints, filed under its hash -/
def El (prog : Program) (w : World) (h : Heap) (e : Int × Value) (ks : List Int) : Prop := ∃ b, e = (hashT prog w ks, .ref b) ∧ IsTupleKey (ik prog w) h ks b
/-- one look at a candidate -/
theorem look {a c : Addr} {o : Obj} {es : Array (Int × Value)} {ep : Nat} {t : SetTable} {ks ks' : List Int} {adding : Bool} {j i fuel : Nat} {nx : Probe} {Q : SetFound → Shared → Prop} (hu : A.units < cLine)
    (ho : s.heap.get? a = some o) (hd : o.data = .set es ep t) (hfit : t.fits es.size = true) (hk : IsTupleKey (ik prog w) s.heap ks c) (hi : i < es.size) (hs : t.slot j = .live i) (he : El prog w s.heap es[i] ks')
    (hel : ∀ e ∈ es.toList, ∃ ks', El prog w s.heap e ks')
    (hyes : ks' = ks → ∀ r, (adding = false → r = some i) → Q (.there r) s) (hno : ks' ≠ ks → wpAny (model prog w) A (setSearchFrom a (.ref c) (hashT prog w ks) adding fuel (some nx)) Q E s) :
    wpAny (model prog w) A (do
      if !t.led then
        if ← searchCouldBeSeen (.ref c) ((es.filter (·.1 == hashT prog w ks)).toList.map (·.2)) then unsupported "set:the-search-would-show-the-table"
      let some (_, y) := es[i]? | unsupported "internal:set-entry"
      let equal ← holding [y] (eqBool y (.ref c))
      let (es', _, t') ← setState a
      if adding && equal then return .there none
      let some same := t'.sameMemory t.moves t.mask | unsupported "set.changed-during-lookup:is-the-new-block-at-the-old-address"
      let still ← match (if same then t'.slot j else .empty) with
        | .live i' => match es'[i']? with
          | some (_, y') => do pure (if ← isSame y' y then some i' else none)
          | none => pure none
        | _ => pure none
      match still with
      | none => rule "set.search.anew"; setSearchFrom a (.ref c) (hashT prog w ks) adding fuel none
      | some i' => if equal then return .there (some i') else setSearchFrom a (.ref c) (hashT prog w ks) adding fuel (some nx)) Q E s := by
  have hg : es[i]? = some es[i] := by simp [hi]
  obtain ⟨b, eb, hb⟩ := he
  have tail : wpAny (model prog w) A (do
      let some (_, y) := es[i]? | unsupported "internal:set-entry"
      let equal ← holding [y] (eqBool y (.ref c))
      let (es', _, t') ← setState a
      if adding && equal then return .there none
      let some same := t'.sameMemory t.moves t.mask | unsupported "set.changed-during-lookup:is-the-new-block-at-the-old-address"
      let still ← match (if same then t'.slot j else .empty) with
        | .live i' => match es'[i']? with
          | some (_, y') => do pure (if ← isSame y' y then some i' else none)
          | none => pure none
        | _ => pure none
      match still with
      | none => rule "set.search.anew"; setSearchFrom a (.ref c) (hashT prog w ks) adding fuel none
      | some i' => if equal then return .there (some i') else setSearchFrom a (.ref c) (hashT prog w ks) adding fuel (some nx)) Q E s := by
    rw [hg, eb]
    dsimp only
    refine wpAny_bind (wpAny_holding (wpAny_eqBool_tuple hu hb hk ?_))
    refine wpAny_bind (wpAny_setState_of ho hd hfit ?_)
    dsimp only
    have sm : t.sameMemory t.moves t.mask = some true := by simp [SetTable.sameMemory]
    by_cases hne : ks' = ks
    · rw [decide_eq_true hne]
      cases adding with
      | true =>
        simp only [Bool.and_self, if_true]
        exact wpAny_pure (hyes hne none fun z => by cases z)
      | false =>
        simp only [Bool.false_and, Bool.false_eq_true, if_false, sm, if_true, hs, hg, eb]
        refine wpAny_bind (wpAny_isSame_ref_self (wpAny_bind (wpAny_pure ?_)))
        simp only [if_true]
        exact wpAny_pure (hyes hne _ fun _ => rfl)
    · rw [decide_eq_false hne]
      simp only [Bool.and_false, Bool.false_eq_true, if_false, sm, if_true, hs, hg, eb]
      refine wpAny_bind (wpAny_isSame_ref_self (wpAny_bind (wpAny_pure ?_)))
      simp only [if_true]
      exact hno hne
  cases hl : t.led with
  | true =>
    simp only [hl, Bool.not_true, Bool.false_eq_true, if_false]
    exact tail
  | false =>
    simp only [hl, Bool.not_false, if_true]
    refine wpAny_bind (unseen hk _ ?_ ?_)
    · intro y hy
      obtain ⟨e', he', rfl⟩ := List.mem_map.mp hy
      have hm : e' ∈ es.toList := by
        have := Array.mem_toList_iff.mp he'
        rw [Array.mem_filter] at this
        exact Array.mem_toList_iff.mpr this.1
      obtain ⟨ks2, b2, eb2, hb2⟩ := hel e' hm
      exact ⟨ks2, b2, by rw [eb2], hb2⟩
    · simp only [Bool.false_eq_true, if_false]
      exact tail
/-- a key that is not there is not found: a free slot on its way is -/
theorem search_absent {a c : Addr} {o : Obj} {es : Array (Int × Value)} {ep : Nat} {t : SetTable} {ks : List Int} {adding : Bool} {Q : SetFound → Shared → Prop} (hu : A.units < cLine)
    (ho : s.heap.get? a = some o) (hd : o.data = .set es ep t) (T : TabOk t es.size) (hk : IsTupleKey (ik prog w) s.heap ks c)
    (hel : ∀ e ∈ es.toList, ∃ ks', El prog w s.heap e ks' ∧ ks' ≠ ks) (h : ∀ j, t.slot j = .empty → Path t.mask (· ∈ t.place.toList) (hashT prog w ks) j → Q (.free j false) s) :
    ∀ (d fuel k : Nat) (stand : Option Probe), stand.getD (t.probeStart (hashT prog w ks)) = adv t k (t.probeStart (hashT prog w ks)) → (∀ e < k, t.slot (adv t e (t.probeStart (hashT prog w ks))).j ≠ .empty) → d < fuel → k + d < 10 * turns t.mask →
    t.slot (adv t (k + d) (t.probeStart (hashT prog w ks))).j = .empty → wpAny (model prog w) A (setSearchFrom a (.ref c) (hashT prog w ks) adding fuel stand) Q E s := by
  intro d
  induction d using Nat.strongRecOn with
  | _ d ih =>
    intro fuel k stand hst hk0 hf hlt hs
    cases fuel with
    | zero => omega
    | succ fuel =>
      unfold setSearchFrom
      refine wpAny_bind (wpAny_setState_of ho hd T.fits ?_)
      dsimp only
      rw [if_neg (by rw [T.odd]; exact Bool.false_ne_true)]
      unfold SetTable.probe
      rw [hst]
      have hdm : (adv t k (t.probeStart (hashT prog w ks))).dummy = none := adv_dummy t _ _ rfl
      rcases probe_path T.dm (fun i => (es[i]?.map (·.1)).getD 0) (hashT prog w ks) (10 * turns t.mask) d _ hdm (by omega) (by rw [← adv_add]; exact hs) with ⟨e, e0, e1, e2, e3⟩ | ⟨i, e, he, e1, e2, e3, e4, e5⟩
      · have key : ∀ f : Nat → Int, (f = fun i => (es[i]?.map (·.1)).getD 0) → probe.go t f (hashT prog w ks) (10 * turns t.mask) (adv t k (t.probeStart (hashT prog w ks))) = some (.empty (adv t e (adv t k (t.probeStart (hashT prog w ks)))).j none) := by
          rintro _ rfl; exact e1
        rw [key _ ?hf]
        case hf => rfl
        refine wpAny_pure (h _ e2 ⟨k + e, by omega, ?_, fun e' he' => ?_⟩)
        · rw [← pos_of, adv_add]
        · rw [← pos_of]
          refine (slot_ne T.dm T.ri _).mp ?_
          by_cases c : e' < k
          · exact hk0 e' c
          · have := e3 (e' - k) (by omega)
            rw [← adv_add, show k + (e' - k) = e' by omega] at this
            exact this
      · have key : ∀ f : Nat → Int, (f = fun i => (es[i]?.map (·.1)).getD 0) → probe.go t f (hashT prog w ks) (10 * turns t.mask) (adv t k (t.probeStart (hashT prog w ks))) =
            some (.candidate (adv t e (adv t k (t.probeStart (hashT prog w ks)))).j i (adv t (e + 1) (adv t k (t.probeStart (hashT prog w ks))))) := by
          rintro _ rfl; exact e1
        rw [key _ ?hf]
        case hf => rfl
        dsimp only
        have hi : i < es.size := by
          have := (Array.getElem?_eq_some_iff.mp e3).1
          rw [T.sz] at this; exact this
        obtain ⟨ks', hE, hne⟩ := hel es[i] (by simp)
        refine look hu ho hd T.fits hk hi e2 hE (fun e he => let ⟨x, y, _⟩ := hel e he; ⟨x, y⟩) (fun z => absurd z hne) fun _ => ?_
        refine ih (d - (e + 1)) (by omega) fuel (k + (e + 1)) _ (show adv t (e + 1) (adv t k _) = _ by rw [← adv_add]) (fun e' he' => ?_) (by omega) (by omega) (by rw [show k + (e + 1) + (d - (e + 1)) = k + d by omega]; exact hs)
        by_cases c : e' < k
        · exact hk0 e' c
        · have := e5 (e' - k) (by omega)
          rw [← adv_add, show k + (e' - k) = e' by omega] at this
          exact this
/-- a key that is there is found -/
theorem search_there {a c : Addr} {o : Obj} {es : Array (Int × Value)} {ep : Nat} {t : SetTable} {ks : List Int} {adding : Bool} {i0 : Nat} {Q : SetFound → Shared → Prop} (hu : A.units < cLine)
    (ho : s.heap.get? a = some o) (hd : o.data = .set es ep t) (T : TabOk t es.size) (hk : IsTupleKey (ik prog w) s.heap ks c)
    (hel : ∀ e ∈ es.toList, ∃ ks', El prog w s.heap e ks') (hi0 : i0 < es.size) (he0 : El prog w s.heap es[i0] ks) (h : ∀ r, (adding = false → r.isSome = true) → Q (.there r) s) :
    ∀ (d fuel k : Nat) (stand : Option Probe), stand.getD (t.probeStart (hashT prog w ks)) = adv t k (t.probeStart (hashT prog w ks)) → d < fuel → d < 10 * turns t.mask →
    (∀ e ≤ k + d, t.slot (adv t e (t.probeStart (hashT prog w ks))).j ≠ .empty) → t.slot (adv t (k + d) (t.probeStart (hashT prog w ks))).j = .live i0 → wpAny (model prog w) A (setSearchFrom a (.ref c) (hashT prog w ks) adding fuel stand) Q E s := by
  intro d
  induction d using Nat.strongRecOn with
  | _ d ih =>
    intro fuel k stand hst hf hlt hn hs
    cases fuel with
    | zero => omega
    | succ fuel =>
      unfold setSearchFrom
      refine wpAny_bind (wpAny_setState_of ho hd T.fits ?_)
      dsimp only
      rw [if_neg (by rw [T.odd]; exact Bool.false_ne_true)]
      unfold SetTable.probe
      rw [hst]
      have hh0 : (es[i0]?.map (·.1)).getD 0 = hashT prog w ks := by
        obtain ⟨b, eb, _⟩ := he0
        have : es[i0]? = some es[i0] := by simp [hi0]
        rw [this, eb]; rfl
      obtain ⟨i, e, he, e1, e2, e3, e4⟩ := probe_hit T.dm (fun i => (es[i]?.map (·.1)).getD 0) (hashT prog w ks) (10 * turns t.mask) d (adv t k (t.probeStart (hashT prog w ks))) hlt
        (fun e he => by rw [← adv_add]; exact hn _ (by omega)) ⟨i0, by rw [← adv_add]; exact hs, hh0⟩
      have key : ∀ f : Nat → Int, (f = fun i => (es[i]?.map (·.1)).getD 0) → probe.go t f (hashT prog w ks) (10 * turns t.mask) (adv t k (t.probeStart (hashT prog w ks))) =
          some (.candidate (adv t e (adv t k (t.probeStart (hashT prog w ks)))).j i (adv t (e + 1) (adv t k (t.probeStart (hashT prog w ks))))) := by
        rintro _ rfl; exact e1
      rw [key _ ?hf]
      case hf => rfl
      dsimp only
      have hi : i < es.size := by
        have := (Array.getElem?_eq_some_iff.mp e3).1
        rw [T.sz] at this; exact this
      obtain ⟨ks', hE⟩ := hel es[i] (by simp)
      refine look hu ho hd T.fits hk hi e2 hE hel (fun _ r hr => h r fun z => by rw [hr z]; rfl) fun hne => ?_
      have hed : e ≠ d := by
        rintro rfl
        rw [← adv_add] at e2
        rw [hs] at e2
        injection e2 with e2
        subst e2
        obtain ⟨b, eb, hb⟩ := hE
        obtain ⟨b0, eb0, hb0⟩ := he0
        rw [eb] at eb0
        injection eb0 with _ z
        injection z with z
        subst z
        exact hne (hb.inj hb0)
      exact ih (d - (e + 1)) (by omega) fuel (k + (e + 1)) _ (show adv t (e + 1) (adv t k _) = _ by rw [← adv_add]) (by omega) (by omega) (by rw [show k + (e + 1) + (d - (e + 1)) = k + d by omega]; exact hn) (by rw [show k + (e + 1) + (d - (e + 1)) = k + d by omega]; exact hs)
end
end SetM

end
section
set_option Elab.async false
set_option linter.all false
set_option maxRecDepth 100000
namespace SetM
open PySem PySem.SetTable
/-- the set at a: its entries, in some order -/
def SetAt (w : World) (h : Heap) (a : Addr) (l : List (Int × Value)) : Prop :=
  ∃ o es ep t, h.get? a = some o ∧ o.ExactSet ∧ o.data = .set es ep t ∧ TabOk t es.size ∧ t.plain = true ∧ t.led = (!w.params.followText "set-order") ∧ es.toList.Perm l ∧ Paths t.mask t.place.toList (es.toList.map (·.1))
section
variable {prog : Program} {w : World} {A : Around} {E : Value → Shared → Prop} {s : Shared}
theorem SetAt.typeIs {a : Addr} {l : List (Int × Value)} (h : SetAt w s.heap a l) : s.TypeIs (.ref a) "set" := let ⟨o, _, _, _, ho, hx, _⟩ := h; ⟨o, ho, hx.1⟩
theorem SetAt.keep {h h' : Heap} {a : Addr} {l : List (Int × Value)} (x : SetAt w h a l) (k : ∀ o, h.get? a = some o → h'.get? a = some o) : SetAt w h' a l :=
  let ⟨o, es, ep, t, ho, r⟩ := x; ⟨o, es, ep, t, k o ho, r⟩
def Els (prog : Program) (w : World) (h : Heap) (l : List (Int × Value)) (ks : List Int) : Prop := ∀ e ∈ l, ∃ ks', El prog w h e ks' ∧ ks' ≠ ks
theorem turns_small {t : SetTable} {n : Nat} (T : TabOk t n) : 10 * turns t.mask < 100000 := by
  unfold turns
  rcases T.ms with ⟨h, _⟩ | ⟨h, _⟩ | ⟨h, _⟩ | ⟨h, _⟩ <;> rw [h] <;> decide
theorem search_free {a c : Addr} {o : Obj} {es : Array (Int × Value)} {ep : Nat} {t : SetTable} {ks : List Int} {adding : Bool} {Q : SetFound → Shared → Prop} (hu : A.units < cLine)
    (ho : s.heap.get? a = some o) (hd : o.data = .set es ep t) (T : TabOk t es.size) (hk : IsTupleKey (ik prog w) s.heap ks c)
    (hel : Els prog w s.heap es.toList ks) (h : ∀ j, t.slot j = .empty → Path t.mask (· ∈ t.place.toList) (hashT prog w ks) j → Q (.free j false) s) : wpAny (model prog w) A (setSearch a (.ref c) (hashT prog w ks) adding) Q E s := by
  obtain ⟨j, hj, hjs⟩ := empty_slot T.dm T.le
  obtain ⟨d, hd', e⟩ := reach T.full (hashT prog w ks) hj
  unfold setSearch
  exact search_absent hu ho hd T hk hel h d 100000 0 none rfl (fun e he => by omega) (by have := turns_small T; omega) (by omega) (by rw [Nat.zero_add, e]; exact hjs)
theorem search_hit {a c : Addr} {o : Obj} {es : Array (Int × Value)} {ep : Nat} {t : SetTable} {ks : List Int} {adding : Bool} {Q : SetFound → Shared → Prop} (hu : A.units < cLine)
    (ho : s.heap.get? a = some o) (hd : o.data = .set es ep t) (T : TabOk t es.size) (hP : Paths t.mask t.place.toList (es.toList.map (·.1))) (hk : IsTupleKey (ik prog w) s.heap ks c)
    (hel : ∀ e ∈ es.toList, ∃ ks', El prog w s.heap e ks') (hin : ∃ e ∈ es.toList, El prog w s.heap e ks) (h : ∀ r, (adding = false → r.isSome = true) → Q (.there r) s) : wpAny (model prog w) A (setSearch a (.ref c) (hashT prog w ks) adding) Q E s := by
  obtain ⟨e0, hm, he0⟩ := hin
  obtain ⟨i0, hi0⟩ := List.getElem?_of_mem hm
  rw [Array.getElem?_toList] at hi0
  obtain ⟨hl, ee⟩ := Array.getElem?_eq_some_iff.mp hi0
  have hpl : i0 < t.place.size := by rw [T.sz]; exact hl
  have hh : e0.1 = hashT prog w ks := by obtain ⟨b, eb, _⟩ := he0; rw [eb]
  have hz : (hashT prog w ks, t.place[i0]) ∈ (es.toList.map (·.1)).zip t.place.toList := by
    refine List.mem_of_getElem? (i := i0) ?_
    rw [List.getElem?_zip_eq_some]
    refine ⟨?_, ?_⟩
    · rw [List.getElem?_map, Array.getElem?_toList, hi0]
      show some e0.1 = _
      rw [hh]
    · rw [Array.getElem?_toList]; simp [hpl]
  obtain ⟨d, d1, d2, d3⟩ := hP _ hz
  have hlive : t.slot (adv t d (t.probeStart (hashT prog w ks))).j = .live i0 := by
    rw [pos_of, d2]
    exact slot_live T.ri (by simp [hpl])
  unfold setSearch
  refine search_there hu ho hd T hk hel hl (by rw [ee]; exact he0) h d 100000 0 none rfl (by have := turns_small T; omega) d1 (fun e he => ?_) (by rw [Nat.zero_add]; exact hlive)
  by_cases c : e = d
  · subst c
    rw [hlive]
    exact fun z => by cases z
  · rw [pos_of]
    exact (slot_ne T.dm T.ri _).mpr (d3 e (by omega))
/-- x in s, where it is not -/
theorem contains_absent {a c : Addr} {l : List (Int × Value)} {ks : List Int} {Q : Bool → Shared → Prop} (hu : A.units < cLine) (hS : SetAt w s.heap a l) (hk : IsTupleKey (ik prog w) s.heap ks c)
    (hel : Els prog w s.heap l ks) (h : Q false { s with toks := s.toks + (ks.length + 1) }) : wpAny (model prog w) A (setContains a (.ref c)) Q E s := by
  obtain ⟨o, es, ep, t, ho, hx, hd, T, _, _, hp, _⟩ := hS
  unfold setContains
  refine wpAny_holding ?_
  refine wpAny_bind (wpAny_pyHash_tuple hu hk ?_)
  refine wpAny_bind ?_
  unfold setFind setFindIn
  refine wpAny_bind (wpAny_setState_of (s := { s with toks := s.toks + (ks.length + 1) }) ho hd T.fits ?_)
  dsimp only
  rw [if_neg (show ¬ byScan (.ref c) es = true from Bool.false_ne_true)]
  refine wpAny_bind (search_free (s := { s with toks := s.toks + (ks.length + 1) }) hu ho hd T hk (fun e he => hel e (hp.mem_iff.mp he)) fun j hj _ => ?_)
  exact wpAny_pure (wpAny_pure h)
theorem contains_there {a c : Addr} {l : List (Int × Value)} {ks : List Int} {Q : Bool → Shared → Prop} (hu : A.units < cLine) (hS : SetAt w s.heap a l) (hk : IsTupleKey (ik prog w) s.heap ks c)
    (hel : ∀ e ∈ l, ∃ ks', El prog w s.heap e ks') (hin : ∃ e ∈ l, El prog w s.heap e ks) (h : Q true { s with toks := s.toks + (ks.length + 1) }) : wpAny (model prog w) A (setContains a (.ref c)) Q E s := by
  obtain ⟨o, es, ep, t, ho, hx, hd, T, _, _, hp, hP⟩ := hS
  unfold setContains
  refine wpAny_holding ?_
  refine wpAny_bind (wpAny_pyHash_tuple hu hk ?_)
  refine wpAny_bind ?_
  unfold setFind setFindIn
  refine wpAny_bind (wpAny_setState_of (s := { s with toks := s.toks + (ks.length + 1) }) ho hd T.fits ?_)
  dsimp only
  rw [if_neg (show ¬ byScan (.ref c) es = true from Bool.false_ne_true)]
  obtain ⟨e0, hm0, he0⟩ := hin
  refine wpAny_bind (search_hit (s := { s with toks := s.toks + (ks.length + 1) }) hu ho hd T hP hk (fun e he => hel e (hp.mem_iff.mp he)) ⟨e0, hp.mem_iff.mpr hm0, he0⟩ fun r hr => ?_)
  refine wpAny_pure (wpAny_pure ?_)
  rw [hr rfl]
  exact h
theorem in_absent {a c : Addr} {l : List (Int × Value)} {ks : List Int} {Q : Value → Shared → Prop} (hu : A.units + 1 < cLine) (hS : SetAt w s.heap a l) (hk : IsTupleKey (ik prog w) s.heap ks c)
    (hel : Els prog w s.heap l ks) (h : Q (.bool false) { s with toks := s.toks + (ks.length + 1) }) : wpAny (model prog w) A (compareOp .In (.ref c) (.ref a)) Q E s := by
  have hT := hS.typeIs
  show wpAny _ _ (do return .bool (← contains (.ref a) (.ref c))) Q E s
  refine wpAny_bind ?_
  unfold contains
  try with_reducible refine wpAny_holding ?_
  refine wpAny_bind (wpAny_specialOf hT F.slot_set_contains.lookup ?_)
  show wpAny _ _ (if (some (Value.builtin "set.__contains__") == some Value.none) = true then _ else _) _ E s
  rw [if_neg (by rw [beq_builtin_none]; exact Bool.false_ne_true)]
  refine wpAny_bind (wpAny_callSpecialUnlessNone?_slot (name := Str.ofString "__contains__") hT F.slot_set_contains
    (wpAny_call_entry F.slot_set_contains hT entry_set_contains ?_ (F.args_set_contains_2 _ _)))
  unfold Builtin.«frozenset.__contains__» Builtin.Frozenset.oneOther
  simp only [List.isEmpty_nil, bind_assoc]
  unfold Builtin.Frozenset.addrOf Builtin.Frozenset.withSetAsKey
  refine wpAny_bind (wpAny_pure ?_)
  try dsimp only
  refine wpAny_bind (wpAny_pure ?_)
  try dsimp only
  refine wpAny_bind (wpAny_tryCatch ?_)
  refine contains_absent ?_ hS hk hel ?_
  · exact hu
  · show wpAny _ _ (ret (Value.bool false)) _ _ _
    exact wpAny_pure ⟨_, rfl, wpAny_truthy_bool (wpAny_pure h)⟩
theorem in_there {a c : Addr} {l : List (Int × Value)} {ks : List Int} {Q : Value → Shared → Prop} (hu : A.units + 1 < cLine) (hS : SetAt w s.heap a l) (hk : IsTupleKey (ik prog w) s.heap ks c)
    (hel : ∀ e ∈ l, ∃ ks', El prog w s.heap e ks') (hin : ∃ e ∈ l, El prog w s.heap e ks) (h : Q (.bool true) { s with toks := s.toks + (ks.length + 1) }) : wpAny (model prog w) A (compareOp .In (.ref c) (.ref a)) Q E s := by
  have hT := hS.typeIs
  show wpAny _ _ (do return .bool (← contains (.ref a) (.ref c))) Q E s
  refine wpAny_bind ?_
  unfold contains
  try with_reducible refine wpAny_holding ?_
  refine wpAny_bind (wpAny_specialOf hT F.slot_set_contains.lookup ?_)
  show wpAny _ _ (if (some (Value.builtin "set.__contains__") == some Value.none) = true then _ else _) _ E s
  rw [if_neg (by rw [beq_builtin_none]; exact Bool.false_ne_true)]
  refine wpAny_bind (wpAny_callSpecialUnlessNone?_slot (name := Str.ofString "__contains__") hT F.slot_set_contains
    (wpAny_call_entry F.slot_set_contains hT entry_set_contains ?_ (F.args_set_contains_2 _ _)))
  unfold Builtin.«frozenset.__contains__» Builtin.Frozenset.oneOther
  simp only [List.isEmpty_nil, bind_assoc]
  unfold Builtin.Frozenset.addrOf Builtin.Frozenset.withSetAsKey
  refine wpAny_bind (wpAny_pure ?_)
  try dsimp only
  refine wpAny_bind (wpAny_pure ?_)
  try dsimp only
  refine wpAny_bind (wpAny_tryCatch ?_)
  refine contains_there ?_ hS hk hel hin ?_
  · exact hu
  · show wpAny _ _ (ret (Value.bool true)) _ _ _
    exact wpAny_pure ⟨_, rfl, wpAny_truthy_bool (wpAny_pure h)⟩
/-- a tuple of ints hashes by its value -/
theorem byValue_tuple {ks : List Int} {c : Addr} {Q : Bool → Shared → Prop} (hk : IsTupleKey (ik prog w) s.heap ks c) (h : Q true s) : wpAny (model prog w) A (hashByValue 8 (.ref c)) Q E s := by
  have hT := hk.typeIs
  obtain ⟨o, items, n, ho, _, hd, hi⟩ := hk
  unfold hashByValue
  refine wpAny_bind (wpAny_specialOf hT F.slot_tuple_hash.lookup ?_)
  dsimp only
  refine wpAny_bind (wpAny_seqItems ho hd ?_)
  show wpAny _ _ (do
      for x in items do
        if !(← hashByValue 7 x) then return false
      return true) Q E s
  refine wpAny_bind ?_
  rw [← Array.forIn_toList]
  refine wpAny_forIn_list _ (fun rest r s' => r.1 = none ∧ s' = s ∧ ∀ v ∈ rest, ∃ k, (ik prog w).is k v = true) _ ?_ ?_ _ _ ⟨rfl, rfl, items_mem hi⟩
  · rintro v rest r s' ⟨hr, rfl, hall⟩
    obtain ⟨k, hk⟩ := hall v List.mem_cons_self
    have : hashByValue 7 v = pure true := by
      have hk : Value.isInt k v = true := hk
      cases v <;> first | rfl | exact absurd (show false = true from hk) Bool.false_ne_true
    rw [this]
    refine wpAny_bind (wpAny_pure ?_)
    simp only [Bool.not_true, Bool.false_eq_true, if_false]
    exact wpAny_pure ⟨rfl, rfl, fun u hu' => hall u (List.mem_cons_of_mem _ hu')⟩
  · rintro ⟨r1, r2⟩ s' ⟨hr, rfl, _⟩
    simp only at hr
    subst hr
    exact wpAny_pure h
theorem filterMap_perm {α : Type} (es : List α) : ∀ (order : List Nat), order.Perm (List.range es.length) → (order.filterMap (es[·]?)).Perm es := by
  intro order hp
  refine (hp.filterMap _).trans ?_
  have go : ∀ n, n ≤ es.length → (List.range n).filterMap (es[·]?) = es.take n := by
    intro n
    induction n with
    | zero => intro _; rfl
    | succ n ih =>
      intro hn
      rw [List.range_succ, List.filterMap_append, ih (by omega), List.take_succ]
      rfl
  have := go es.length (Nat.le_refl _)
  rw [List.take_length] at this
  rw [this]
/-- the table with one slot more -/
theorem put_ok {t : SetTable} {n j : Nat} (T : TabOk t n) (hj : t.slot j = .empty) (hn : n < 306) :
    let t' := (t.put j).1
    t'.dummies = #[] ∧ t'.place.size = n + 1 ∧ Rise t'.place ∧ t'.mask = t.mask ∧ t'.plain = t.plain ∧ t'.led = t.led ∧ (t'.tooFull = false → TabOk t' (n + 1)) ∧
    (t'.tooFull = true → ∃ m, sizeAbove (grown (n + 1)) - 1 = m ∧ sizeAbove (grown (n + 1)) ≤ 512 ∧ ((m = 31 ∧ n + 1 ≤ 18) ∨ (m = 127 ∧ n + 1 ≤ 76) ∨ (m = 511 ∧ n + 1 ≤ 306))) := by
  have hd : (t.put j).1.dummies = #[] := by
    unfold SetTable.put
    have hh : has t.dummies j = false := by unfold has; rw [T.dm]; rfl
    simp only [hh, Bool.false_eq_true, if_false]
    exact T.dm
  have hs : (t.put j).1.place.size = n + 1 := by
    show (insertAt t.place _ j).size = _
    rw [insertAt_size, T.sz]
  have hr : Rise (t.put j).1.place := rise_put T.ri (empty_not T.ri hj)
  have hm : (t.put j).1.mask = t.mask := rfl
  refine ⟨hd, hs, hr, hm, rfl, rfl, fun hf => ⟨hd, hs, ?_, hr⟩, fun hf => ?_⟩
  · unfold SetTable.tooFull SetTable.fill at hf
    rw [hd, hs, hm] at hf
    have hf := of_decide_eq_false hf
    simp only [List.size_toArray, List.length_nil] at hf
    rw [hm]
    rcases T.ms with ⟨e, h⟩ | ⟨e, h⟩ | ⟨e, h⟩ | ⟨e, h⟩ <;> rw [e] at hf ⊢ <;> omega
  · unfold SetTable.tooFull SetTable.fill at hf
    rw [hd, hs, hm] at hf
    have hf := of_decide_eq_true hf
    simp only [List.size_toArray, List.length_nil] at hf
    rcases T.ms with ⟨e, h⟩ | ⟨e, h⟩ | ⟨e, h⟩ | ⟨e, h⟩ <;> rw [e] at hf
    · have : n = 4 := by omega
      subst this
      exact ⟨31, by decide, by decide, .inl ⟨rfl, by decide⟩⟩
    · have : n = 18 := by omega
      subst this
      exact ⟨127, by decide, by decide, .inr (.inl ⟨rfl, by decide⟩)⟩
    · have : n = 76 := by omega
      subst this
      exact ⟨511, by decide, by decide, .inr (.inr ⟨rfl, by decide⟩)⟩
    · omega
theorem size_le {n : Nat} (h : n ≤ 512) : n ≤ sizeLine := by rw [sizeLine_eq]; omega
theorem relay_ok {a : Addr} {o : Obj} {es : Array (Int × Value)} {ep : Nat} {t : SetTable} {m wanted : Nat} {Q : Unit → Shared → Prop} (ho : s.heap.get? a = some o) (hx : o.ExactSet) (hd : o.data = .set es ep t)
    (hf : t.fits es.size = true) (hm : sizeAbove wanted - 1 = m) (hw : sizeAbove wanted ≤ 512) (hms : (m = 31 ∧ es.size ≤ 18) ∨ (m = 127 ∧ es.size ≤ 76) ∨ (m = 511 ∧ es.size ≤ 306))
    (h : ∀ h' es' t', Heap.SameBut a s.heap h' → h'.get? a = some { o with data := .set es' (ep + 1) t' } → TabOk t' es'.size → t'.plain = t.plain → t'.led = t.led → es'.toList.Perm es.toList → Paths t'.mask t'.place.toList (es'.toList.map (·.1)) → Q () { s with heap := h' }) :
    wpAny (model prog w) A (setRelay a wanted) Q E s := by
  unfold setRelay
  refine wpAny_bind (wpAny_setState_of ho hd hf ?_)
  dsimp only
  rw [if_neg (by have := size_le hw; omega)]
  have hfull : Full (m + 1) = true := by
    rcases hms with ⟨e, _⟩ | ⟨e, _⟩ | ⟨e, _⟩ <;> rw [e]
    · exact full32
    · exact full128
    · exact full512
  obtain ⟨place, order, e1, e2, e3⟩ := laid_ok (mask := m) (finger := t.finger) (moves := t.movedTo m) (led := t.led) (plain := t.plain) (hashes := es.map (·.1)) hfull
    (by rw [Array.size_map]; rcases hms with ⟨e, h⟩ | ⟨e, h⟩ | ⟨e, h⟩ <;> omega)
  have hr : t.relaid (es.map (·.1)) wanted = some ({ mask := m, place, dummies := #[], finger := t.finger, led := t.led, moves := t.movedTo m, plain := t.plain }, order) := by
    unfold SetTable.relaid
    rw [hm]
    exact e1
  rw [hr]
  have hri : Rise place := laid_rise e1
  have hpa := laid_paths (es := es) hfull (by rcases hms with ⟨e, h⟩ | ⟨e, h⟩ | ⟨e, h⟩ <;> omega) e1
  rw [Array.size_map] at e2 e3
  have hp : (order.filterMap (es[·]?)).toList.Perm es.toList := by
    rw [Array.toList_filterMap]
    have := filterMap_perm es.toList order.toList (by rw [Array.length_toList]; exact e3)
    simpa using this
  have hsz : (order.filterMap (es[·]?)).size = es.size := by
    have := hp.length_eq
    rw [Array.length_toList, Array.length_toList] at this
    exact this
  refine wpAny_bind ?_
  show wpAny _ _ (do
    let es' := order.filterMap (es[·]?)
    if es'.size != es.size then unsupported "internal:set-table-lost-an-element"
    pure (es', _)) _ _ _
  dsimp only
  rw [hsz, if_neg (by simp)]
  refine wpAny_pure ?_
  dsimp only
  refine wpAny_storeSet_of ho hd ?_ (by rw [hsz]; exact size_le (by rcases hms with ⟨e, h⟩ | ⟨e, h⟩ | ⟨e, h⟩ <;> omega))
  have hg := Heap.get?_update_self (Obj.putSet (order.filterMap (es[·]?)) { mask := m, place, dummies := #[], finger := t.finger, led := t.led, moves := t.movedTo m, plain := t.plain }) ho (by rw [putSet_of _ _ hd]; rfl)
  rw [putSet_of _ _ hd] at hg
  refine h _ _ _ (Heap.SameBut.update _ a _) hg ⟨rfl, by rw [hsz]; exact e2, ?_, hri⟩ rfl rfl hp hpa
  rw [hsz]
  exact .inr hms
/-- s.add(x), where it is not -/
theorem add_absent {a c : Addr} {l : List (Int × Value)} {ks : List Int} {Q : Bool → Shared → Prop} (hu : A.units < cLine) (hS : SetAt w s.heap a l) (hl : l.length < 306) (hk : IsTupleKey (ik prog w) s.heap ks c)
    (hel : Els prog w s.heap l ks) (h : ∀ h', Heap.SameBut a s.heap h' → SetAt w h' a ((hashT prog w ks, .ref c) :: l) → Q true { s with heap := h', toks := s.toks + (ks.length + 1) }) :
    wpAny (model prog w) A (setAdd a (.ref c)) Q E s := by
  obtain ⟨o, es, ep, t, ho, hx, hd, T, hpl, hle, hp, hP⟩ := hS
  have hn : es.size < 306 := by
    have := hp.length_eq
    rw [Array.length_toList] at this
    omega
  unfold setAdd
  refine wpAny_holding ?_
  refine wpAny_bind (wpAny_pyHash_tuple hu hk ?_)
  unfold setAddHashed setAddHashedIn
  refine wpAny_holding ?_
  refine wpAny_bind (wpAny_setState_of (s := { s with toks := s.toks + (ks.length + 1) }) ho hd T.fits ?_)
  dsimp only
  rw [if_neg (show ¬ byScan (.ref c) es = true from Bool.false_ne_true)]
  refine wpAny_bind (search_free (s := { s with toks := s.toks + (ks.length + 1) }) hu ho hd T hk (fun e he => hel e (hp.mem_iff.mp he)) fun j hj hpath => ?_)
  refine wpAny_bind (wpAny_setState_of (s := { s with toks := s.toks + (ks.length + 1) }) ho hd T.fits ?_)
  dsimp only
  obtain ⟨p1, p2, p3, p4, p5, p6, p7, p8⟩ := put_ok T hj hn
  rw [p5, hpl]
  simp only [if_true]
  refine wpAny_bind (byValue_tuple (s := { s with toks := s.toks + (ks.length + 1) }) hk ?_)
  simp only [if_true]
  have hz : (insertAt es (t.put j).2 (hashT prog w ks, Value.ref c)).size = es.size + 1 := insertAt_size _ _ _
  refine wpAny_bind (wpAny_storeSet_of (s := { s with toks := s.toks + (ks.length + 1) }) ho hd ?_ (by rw [hz]; exact size_le (by omega)))
  have hg := Heap.get?_update_self (Obj.putSet (insertAt es (t.put j).2 (hashT prog w ks, Value.ref c)) (t.put j).1) ho (by rw [putSet_of _ _ hd]; rfl)
  rw [putSet_of _ _ hd] at hg
  have hsb := Heap.SameBut.update s.heap a (Obj.putSet (insertAt es (t.put j).2 (hashT prog w ks, Value.ref c)) (t.put j).1)
  have hperm : (insertAt es (t.put j).2 (hashT prog w ks, Value.ref c)).toList.Perm ((hashT prog w ks, .ref c) :: l) := (insertAt_perm _ _ _).trans (hp.cons _)
  cases hf : (t.put j).1.tooFull with
  | false =>
    simp only [Bool.not_false, Bool.and_false, Bool.false_eq_true, if_false]
    exact wpAny_pure (h _ hsb ⟨_, _, _, _, hg, hx, rfl, by rw [hz]; exact p7 hf, by rw [p5]; exact hpl, by rw [p6]; exact hle, hperm, paths_put T.sz.symm hP hpath⟩)
  | true =>
    simp only [Bool.not_false, Bool.and_self, if_true]
    obtain ⟨m, m1, m2, m3⟩ := p8 hf
    have hfit : (t.put j).1.fits (insertAt es (t.put j).2 (hashT prog w ks, Value.ref c)).size = true := by
      rw [hz]
      have := T.le
      have hlt : es.size < t.mask := by
        rcases T.ms with ⟨e, h⟩ | ⟨e, h⟩ | ⟨e, h⟩ | ⟨e, h⟩ <;> omega
      simp only [SetTable.fits, SetTable.fill, p1, p2, p4, Bool.and_eq_true, beq_iff_eq, decide_eq_true_eq]
      exact ⟨trivial, by simpa using (show es.size + 1 ≤ t.mask from hlt)⟩
    refine wpAny_bind (relay_ok (s := { s with heap := s.heap.update a _, toks := s.toks + (ks.length + 1) }) hg hx rfl hfit m1 m2 (by rw [hz]; exact m3) fun h' es' t' b1 b2 b3 b4 b5 b6 b7 => ?_)
    exact wpAny_pure (h h' (hsb.trans b1) ⟨_, _, _, _, b2, hx, rfl, b3, by rw [b4, p5]; exact hpl, by rw [b5, p6]; exact hle, b6.trans hperm, b7⟩)
theorem call_add {a c : Addr} {l : List (Int × Value)} {ks : List Int} {Q : Value → Shared → Prop} (hu : A.units + 1 < cLine) (hS : SetAt w s.heap a l) (hl : l.length < 306) (hk : IsTupleKey (ik prog w) s.heap ks c)
    (hel : Els prog w s.heap l ks) (h : ∀ h', Heap.SameBut a s.heap h' → SetAt w h' a ((hashT prog w ks, .ref c) :: l) → Q .none { s with heap := h', toks := s.toks + (ks.length + 1) }) :
    wpAny (model prog w) A (call (.builtin "set.add") [.ref a, .ref c]) Q E s := by
  refine wpAny_call_entry F.slot_set_add hS.typeIs F.entry_set_add ?_ (F.args_set_add_2 _ _)
  unfold Builtin.«set.add» Builtin.Frozenset.oneOther
  simp only [List.isEmpty_nil, bind_assoc]
  unfold Builtin.Frozenset.addrOf
  refine wpAny_bind (wpAny_pure ?_)
  try dsimp only
  refine wpAny_bind (wpAny_pure ?_)
  try dsimp only
  refine wpAny_bind (add_absent (A := A.in1) hu hS hl hk hel fun h' b1 b2 => ?_)
  exact wpAny_pure ⟨_, rfl, h h' b1 b2⟩
end
end SetM

end
section
set_option Elab.async false
set_option linter.all false
set_option maxRecDepth 100000
namespace SetM
open PySem PySem.SetTable
/-! ### slots that were given up -/
def OccD (t : SetTable) (j : Nat) : Prop := j ∈ t.place.toList ∨ j ∈ t.dummies.toList
section
variable {prog : Program} {w : World} {A : Around} {E : Value → Shared → Prop} {s : Shared}
end
end SetM

end
section
set_option Elab.async false
set_option linter.all false
set_option maxRecDepth 100000
namespace SetM
open PySem PySem.SetTable
/-- a new set -/
def newO (w : World) : Obj := { cls := .type "set", dict := none, data := .set #[] 0 (.fresh 0 0 (!w.params.followText "set-order")) }
theorem newO_at {w : World} {h : Heap} : SetAt w (h.push (newO w)) h.objs.size [] :=
  ⟨newO w, #[], 0, _, Heap.get?_push_size _ rfl, ⟨rfl, rfl, rfl⟩, rfl, ⟨rfl, rfl, .inl ⟨rfl, by decide⟩, fun i j hj h => by simp [SetTable.fresh] at hj⟩, rfl, rfl, .nil, (fun q hq => by cases hq)⟩
section
variable {prog : Program} {w : World} {A : Around} {E : Value → Shared → Prop} {s : Shared}
theorem made_set {Q₁ : Value → Shared → Prop} (hq : Q₁ (.ref s.heap.objs.size) { s with heap := s.heap.push (newO w) }) :
    codeAny (model prog w) A (.call (.builtin "set.__new__") ⟨[.type "set"], []⟩) (wants Q₁ E) s := by
  refine codeAny_of_tree (show wpAny _ A.in1 (checkBuiltinCall "set.__new__" ⟨[.type "set"], []⟩ >>= fun _ => again (.builtin "set.__new__" ⟨[.type "set"], []⟩)) _ _ s from ?_)
  refine wpAny_bind (wpAny_of_eq F.newCall_set_0 ?_)
  refine wpAny_pure ⟨plainId_quiet F.plain_set_new _, codeAny_builtin F.entry_set_new ?_⟩
  rw [Around.under_plainId F.plain_set_new _]
  unfold Builtin.«set.__new__» Builtin.Frozenset.newClass
  have sub := sub_set_self
  obtain ⟨hp, g, d, tk, os⟩ := s
  dsimp only
  wp_walk
  refine wpAny_askSetting ?_
  refine wpAny_pure ?_
  dsimp only
  simp only [newObj]
  exact wpAny_bind (wpAny_alloc (wpAny_pure (wpAny_pure hq)))
set_option maxHeartbeats 1000000 in
theorem call_set {Q : Value → Shared → Prop} (hq : Q (.ref s.heap.objs.size) { s with heap := s.heap.push (newO w) }) : wpAny (model prog w) A (call (.type "set") []) Q E s := by
  obtain ⟨c, tl, mro⟩ := F.called_set.mro
  have made := F.called_set.made
  have sub := F.called_set.sub
  refine wpAny_call (codeAny_of_tree (show wpAny _ _ (callAny (.type "set") _) _ _ _ from ?_))
  refine wpAny_pure ⟨Code.quiet_builtin _ (by decide +kernel), codeAny_builtin F.entry_type_call ?_⟩
  rw [Around.under_plain (weight_type_call_type "set" [] []) rfl]
  have g1 := F.called_set.notType
  have g2 := F.called_set.canCreate
  have g3 := F.typeCall_set_0
  repeat (any_goals (first | assumption | wp_step))
  refine codeAny_mono (made_set (E := E) (Q₁ := fun obj s₁ => obj = .ref s.heap.objs.size ∧ s₁ = { s with heap := s.heap.push (newO w) }) ⟨rfl, rfl⟩) fun r s₁ hr => ?_
  cases r with
  | error e => exact hr
  | ok fl =>
    cases fl with
    | ret obj =>
      obtain ⟨rfl, rfl⟩ := hr
      have hS : (s.heap.push (newO w)).get? s.heap.objs.size = some (newO w) := Heap.get?_push_size _ rfl
      have hT : Shared.TypeIs { s with heap := s.heap.push (newO w) } (.ref s.heap.objs.size) "set" := ⟨_, hS, rfl⟩
      have f1 := F.called_set.init.lookup
      have f2 := F.called_set.init.bind (.ref s.heap.objs.size)
      repeat (any_goals (first | assumption | wp_step))
      refine codeAny_mono (codeAny_call_builtin (R := wants (fun r s₂ => r = .none ∧ Q (.ref s.heap.objs.size) s₂) E) F.called_set.init.plain F.entry_set_init (check_set_init hT ?_)) fun r₂ s₂ hr₂ => ?_
      · unfold Builtin.«set.__init__» noKeywords
        wp_walk
        exact ⟨rfl, hq⟩
      · cases r₂ with
        | error e => exact hr₂
        | ok fl₂ =>
          cases fl₂ with
          | ret r =>
            obtain ⟨rfl, hq⟩ := hr₂
            repeat (any_goals (first | assumption | wp_step))
          | _ => exact hr₂.elim
    | _ => exact hr.elim
end
end SetM

end
section
set_option Elab.async false
set_option linter.all false
set_option maxRecDepth 100000
namespace SetM
open PySem PySem.SetTable
/-- the order in which a walk tells the entries -/
def ordOf (w : World) (a : Addr) (ep : Nat) (es : Array (Int × Value)) : Array (Int × Value) := if w.params.followText "set-order" = true then pickOrder (w.params.setOrder a ep) es else es
theorem ord_perm (w : World) (a : Addr) (ep : Nat) (es : Array (Int × Value)) : (ordOf w a ep es).toList.Perm es.toList := by
  unfold ordOf
  split
  · exact pick_perm _ _
  · exact .refl _
theorem ord_size (w : World) (a : Addr) (ep : Nat) (es : Array (Int × Value)) : (ordOf w a ep es).size = es.size := by
  have := (ord_perm w a ep es).length_eq
  rwa [Array.length_toList, Array.length_toList] at this
theorem slot_si_next : Slot "set_iterator" "__next__" "set_iterator.__next__" :=
  .of (owner := "set_iterator") (n := "__next__") (by rw [typeLookup_type, builtinLookup_eq_fast]; kernel_rfl) (by decide +kernel) (by decide +kernel)
    (by decide +kernel) (by first | exact .inl (by decide +kernel) | exact .inr (by decide +kernel)) (by rw [isSubtype_type]; kernel_rfl)
theorem entry_si_next : entryFor table "set_iterator.__next__" = some Builtin.«set_iterator.__next__» := entryFor_of_tree (by kernel_rfl)
theorem args_si (a : Value) : argsOk "set_iterator.__next__" ⟨[a], []⟩ := by
  unfold argsOk
  kernel_rfl
theorem entry_set_iter : entryFor table "set.__iter__" = some Builtin.«frozenset.__iter__» :=
  entryFor_alias (id' := "frozenset.__iter__") (by kernel_rfl) rfl (by decide +kernel) (by kernel_rfl)
section
variable {prog : Program} {w : World} {A : Around} {E : Value → Shared → Prop} {s : Shared}
/-- the set at a, by its object -/
structure Tb (w : World) (h : Heap) (a : Addr) (o : Obj) (es : Array (Int × Value)) (ep : Nat) (t : SetTable) : Prop where
  ho : h.get? a = some o
  hx : o.ExactSet
  hd : o.data = .set es ep t
  T : TabD t es.size
  pl : t.plain = true
  le : t.led = (!w.params.followText "set-order")
variable {a I : Addr} {o : Obj} {es : Array (Int × Value)} {ep : Nat} {t : SetTable}
theorem byText {Q : Bool → Shared → Prop} (h : Q (w.params.followText "set-order") s) : wpAny (model prog w) A setsByText Q E s := by
  unfold setsByText
  exact wpAny_bind (wpAny_askSetting (wpAny_pure h))
theorem next_item {slot i : Nat} {Q : Option (Value × Nat) → Shared → Prop} (B : Tb w s.heap a o es ep t) (hb : w.params.followText "set-order" = false → below t.place slot = i) (hi : i < es.size)
    (h : ∀ e slot', (ordOf w a ep es)[i]? = some e → (w.params.followText "set-order" = false → below t.place slot' = i + 1) → Q (some (e.2, slot')) s) :
    wpAny (model prog w) A (setNext a slot i ep) Q E s := by
  unfold setNext
  refine wpAny_bind (wpAny_setState_of B.ho B.hd B.T.fits ?_)
  dsimp only
  refine wpAny_bind (byText ?_)
  cases c : w.params.followText "set-order" with
  | true =>
    simp only [if_true, bne_self_eq_false, Bool.false_eq_true, if_false]
    refine wpAny_bind ?_
    unfold setWalk
    refine wpAny_bind (wpAny_setState_of B.ho B.hd B.T.fits ?_)
    dsimp only
    refine wpAny_bind (byText ?_)
    simp only [c, if_true]
    refine wpAny_bind (wpAny_askSetting (wpAny_pure (wpAny_pure ?_)))
    have hs := ord_size w a ep es
    have hg : (ordOf w a ep es)[i]? = some ((ordOf w a ep es)[i]'(by omega)) := by simp [hs, hi]
    have e : pickOrder (w.params.setOrder a ep) es = ordOf w a ep es := by unfold ordOf; rw [if_pos c]
    show Q (((pickOrder (w.params.setOrder a ep) es)[i]?).map fun e => (e.2, slot)) s
    rw [e, hg]
    exact h _ slot hg (fun z => by rw [z] at c; cases c)
  | false =>
    simp only [Bool.false_eq_true, if_false]
    have hdr : (!t.plain && decide (es.size > 1)) = false := by rw [B.pl]; rfl
    show wpAny _ _ (if (!t.plain && decide (es.size > 1)) = true then _ else _) _ _ _
    rw [hdr]
    simp only [Bool.false_eq_true, if_false]
    have hld : (!t.led && !es.isEmpty) = false := by rw [B.le, c]; rfl
    refine wpAny_bind ?_
    show wpAny _ _ (if (!t.led && !es.isEmpty) = true then _ else _) _ _ _
    rw [hld]
    simp only [Bool.false_eq_true, if_false]
    refine wpAny_pure ?_
    have hb := hb c
    have hp : i < t.place.size := by rw [B.T.sz]; exact hi
    have g1 : es[i]? = some es[i] := by simp [hi]
    have g2 : t.place[i]? = some t.place[i] := by simp [hp]
    simp only [hb, g1, g2]
    refine wpAny_pure (h es[i] _ ?_ fun _ => below_succ B.T.ri hp)
    unfold ordOf
    rw [if_neg (by rw [c]; exact Bool.false_ne_true)]
    exact g1
theorem next_end {slot : Nat} {Q : Option (Value × Nat) → Shared → Prop} (B : Tb w s.heap a o es ep t) (hb : w.params.followText "set-order" = false → below t.place slot = es.size)
    (h : Q none s) : wpAny (model prog w) A (setNext a slot es.size ep) Q E s := by
  unfold setNext
  refine wpAny_bind (wpAny_setState_of B.ho B.hd B.T.fits ?_)
  dsimp only
  refine wpAny_bind (byText ?_)
  cases c : w.params.followText "set-order" with
  | true =>
    simp only [if_true, bne_self_eq_false, Bool.false_eq_true, if_false]
    refine wpAny_bind ?_
    unfold setWalk
    refine wpAny_bind (wpAny_setState_of B.ho B.hd B.T.fits ?_)
    dsimp only
    refine wpAny_bind (byText ?_)
    simp only [c, if_true]
    refine wpAny_bind (wpAny_askSetting (wpAny_pure (wpAny_pure ?_)))
    have hs := ord_size w a ep es
    have hg : (ordOf w a ep es)[es.size]? = none := by simp [hs]
    have e : pickOrder (w.params.setOrder a ep) es = ordOf w a ep es := by unfold ordOf; rw [if_pos c]
    show Q (((pickOrder (w.params.setOrder a ep) es)[es.size]?).map fun e => (e.2, slot)) s
    rw [e, hg]
    exact h
  | false =>
    simp only [Bool.false_eq_true, if_false]
    have hdr : (!t.plain && decide (es.size > 1)) = false := by rw [B.pl]; rfl
    show wpAny _ _ (if (!t.plain && decide (es.size > 1)) = true then _ else _) _ _ _
    rw [hdr]
    simp only [Bool.false_eq_true, if_false]
    have hld : (!t.led && !es.isEmpty) = false := by rw [B.le, c]; rfl
    refine wpAny_bind ?_
    show wpAny _ _ (if (!t.led && !es.isEmpty) = true then _ else _) _ _ _
    rw [hld]
    simp only [Bool.false_eq_true, if_false]
    refine wpAny_pure ?_
    have g1 : es[es.size]? = none := by simp
    simp only [hb c, g1]
    exact wpAny_pure h
/-- the walk stands at i -/
def SIt (w : World) (a I : Addr) (o : Obj) (es : Array (Int × Value)) (ep : Nat) (t : SetTable) (i : Nat) (s : Shared) : Prop :=
  Tb w s.heap a o es ep t ∧ a ≠ I ∧ ∃ oi slot, s.heap.get? I = some oi ∧ oi.cls = .type "set_iterator" ∧ oi.data = .fields #[.int (slot : Nat) 0, .int (i : Nat) 0, .ref a, .int (es.size : Nat) 0, .int (ep : Nat) 0] ∧
    (w.params.followText "set-order" = false → below t.place slot = i)
theorem SIt.typeIs {i : Nat} (h : SIt w a I o es ep t i s) : s.TypeIs (.ref I) "set_iterator" := let ⟨_, _, oi, _, e, c, _⟩ := h; ⟨oi, e, c⟩
theorem SIt.item {i : Nat} {Q : Option Value → Shared → Prop} (h : SIt w a I o es ep t i s) (hi : i < es.size)
    (hQ : ∀ e h', (ordOf w a ep es)[i]? = some e → SIt w a I o es ep t (i + 1) { s with heap := h' } → Heap.SameBut I s.heap h' → Q (some e.2) { s with heap := h' }) :
    wpAny (model prog w) A (pyNext (.ref I)) Q E s := by
  have hT := h.typeIs
  obtain ⟨B, ne, oi, slot, ho, hc, hd, hb⟩ := h
  unfold pyNext
  refine wpAny_bind (wpAny_attempt (wpAny_callSpecial?_slot (name := Str.ofString "__next__") hT slot_si_next (wpAny_call_entry slot_si_next hT entry_si_next ?_ (args_si _))))
  unfold Builtin.«set_iterator.__next__» slotArgs
  simp only [List.isEmpty_nil, Bool.not_true, Bool.false_eq_true, if_false, List.length_nil, bne_self_eq_false]
  refine wpAny_bind (wpAny_pure ?_)
  refine wpAny_bind (wpAny_fieldsOf ho hd ?_)
  dsimp only
  refine wpAny_bind (wpAny_setEntries_of B.ho B.hd B.T.fits ?_)
  rw [if_neg (by simp)]
  simp only [Int.toNat_natCast]
  refine wpAny_bind (next_item B hb hi fun e slot' he hb' => ?_)
  dsimp only
  refine wpAny_bind (wpAny_setField ho hd (by simp) ?_)
  have g1 := Heap.get?_update_self (Obj.mapFields (·.setIfInBounds 0 (rawInt slot'))) ho (Obj.isFreed_of_fields (Obj.data_mapFields hd _))
  have d1 := Obj.data_mapFields hd (·.setIfInBounds 0 (rawInt slot'))
  refine wpAny_bind (wpAny_setField (s := { s with heap := s.heap.update I _ }) g1 d1 (by simp) ?_)
  have g2 := Heap.get?_update_self (Obj.mapFields (·.setIfInBounds 1 (rawInt ((i : Int) + 1)))) g1 (Obj.isFreed_of_fields (Obj.data_mapFields d1 _))
  have d2 := Obj.data_mapFields d1 (·.setIfInBounds 1 (rawInt ((i : Int) + 1)))
  have sb := (Heap.SameBut.update s.heap I (Obj.mapFields (·.setIfInBounds 0 (rawInt slot')))).trans (Heap.SameBut.update _ I (Obj.mapFields (·.setIfInBounds 1 (rawInt ((i : Int) + 1)))))
  refine wpAny_pure ⟨_, rfl, wpAny_pure (hQ e _ he ⟨⟨(sb.2 a ne).trans B.ho, B.hx, B.hd, B.T, B.pl, B.le⟩, ne, _, slot', g2, ?_, ?_, hb'⟩ sb)⟩
  · rw [Obj.cls_mapFields, Obj.cls_mapFields]; exact hc
  · rw [d2]; simp [rawInt]
theorem SIt.fin {Q : Option Value → Shared → Prop} (hh : A.handled = none) (h : SIt w a I o es ep t es.size s) (hQ : ∀ h', Heap.ExtBut I s.heap h' → Q none { s with heap := h' }) :
    wpAny (model prog w) A (pyNext (.ref I)) Q E s := by
  have hT := h.typeIs
  obtain ⟨B, ne, oi, slot, ho, hc, hd, hb⟩ := h
  unfold pyNext
  refine wpAny_bind (wpAny_attempt (wpAny_callSpecial?_slot (name := Str.ofString "__next__") hT slot_si_next (wpAny_call_entry slot_si_next hT entry_si_next ?_ (args_si _))))
  unfold Builtin.«set_iterator.__next__» slotArgs
  simp only [List.isEmpty_nil, Bool.not_true, Bool.false_eq_true, if_false, List.length_nil, bne_self_eq_false]
  refine wpAny_bind (wpAny_pure ?_)
  refine wpAny_bind (wpAny_fieldsOf ho hd ?_)
  dsimp only
  refine wpAny_bind (wpAny_setEntries_of B.ho B.hd B.T.fits ?_)
  rw [if_neg (by simp)]
  simp only [Int.toNat_natCast]
  refine wpAny_bind (next_end B hb ?_)
  dsimp only
  refine wpAny_bind (wpAny_setField ho hd (by simp) ?_)
  refine wpAny_bind ?_
  simp only [newExc, newTuple]
  refine wpAny_bind (wpAny_newObj_type ?_ (by size_fits))
  refine wpAny_bind (m := firstArgMember _ _) (wpAny_of_eq (a := Value.none) (by first | rfl | (simp only [firstArgMember]; rfl)) ?_)
  refine wpAny_newObj_type ?_ (by size_fits)
  simp only [raiseNew]
  refine wpAny_bind (wpAny_handled ?_)
  rw [show A.in1.handled = none from hh]
  refine wpAny_bind (wpAny_pure (wpAny_throw ?_))
  refine wpAny_bind (wpAny_isInstance (T := "StopIteration") (b := true) ⟨_, Heap.get?_push_size _ rfl, rfl⟩ isSubtype_stop (wpAny_pure ?_))
  exact hQ _ (((Heap.SameBut.update ..).extBut.push _).push _)
end
end SetM

end
section
set_option Elab.async false
set_option linter.all false
set_option maxRecDepth 100000
namespace SetM
open PySem PySem.SetTable
def PathsD (t : SetTable) (hs : List Int) : Prop := ∀ q ∈ hs.zip t.place.toList, Path t.mask (OccD t) q.1 q.2
/-- the set at a, some slots of whose table may have been given up -/
def SetDAt (w : World) (h : Heap) (a : Addr) (l : List (Int × Value)) (m d : Nat) : Prop :=
  ∃ o es ep t, h.get? a = some o ∧ o.ExactSet ∧ o.data = .set es ep t ∧ TabD t es.size ∧ t.mask = m ∧ t.dummies.size = d ∧ t.plain = true ∧ t.led = (!w.params.followText "set-order") ∧ es.toList.Perm l ∧ PathsD t (es.toList.map (·.1))
theorem SetDAt.keep {w : World} {h h' : Heap} {a : Addr} {l : List (Int × Value)} {m d : Nat} (x : SetDAt w h a l m d) (k : ∀ o, h.get? a = some o → h'.get? a = some o) : SetDAt w h' a l m d :=
  let ⟨o, es, ep, t, ho, r⟩ := x; ⟨o, es, ep, t, k o ho, r⟩
section
variable {prog : Program} {w : World} {A : Around} {E : Value → Shared → Prop} {s : Shared}
end
end SetM

end
section
set_option Elab.async false
set_option linter.all false
set_option maxRecDepth 100000
namespace SetM
open PySem PySem.SetTable
section
variable {prog : Program} {w : World} {A : Around} {E : Value → Shared → Prop} {s : Shared}
end
end SetM

end
section
set_option Elab.async false
set_option linter.all false
set_option maxRecDepth 100000
namespace SetM
open PySem PySem.SetTable
def itO (a : Addr) (n ep : Nat) : Obj := { cls := .type "set_iterator", data := .fields #[.int (0 : Nat) 0, .int (0 : Nat) 0, .ref a, .int (n : Nat) 0, .int (ep : Nat) 0] }
theorem slot_si_iter : Slot "set_iterator" "__iter__" "set_iterator.__iter__" :=
  .of (owner := "set_iterator") (n := "__iter__") (by rw [typeLookup_type, builtinLookup_eq_fast]; kernel_rfl) (by decide +kernel) (by decide +kernel)
    (by decide +kernel) (by first | exact .inl (by decide +kernel) | exact .inr (by decide +kernel)) (by rw [isSubtype_type]; kernel_rfl)
theorem entry_si_iter : entryFor table "set_iterator.__iter__" = some Builtin.«dict_keyiterator.__iter__» :=
  entryFor_alias (id' := "dict_keyiterator.__iter__") (by kernel_rfl) rfl (by decide +kernel) (by kernel_rfl)
theorem args_si_iter (a : Value) : argsOk "set_iterator.__iter__" ⟨[a], []⟩ := by
  unfold argsOk
  kernel_rfl
section
variable {prog : Program} {w : World} {A : Around} {E : Value → Shared → Prop} {s : Shared} {a I : Addr} {o : Obj} {es : Array (Int × Value)} {ep : Nat} {t : SetTable}
theorem Tb.typeIs (B : Tb w s.heap a o es ep t) : s.TypeIs (.ref a) "set" := ⟨o, B.ho, B.hx.1⟩
theorem iter_set {Q : Value → Shared → Prop} (B : Tb w s.heap a o es ep t) (hQ : Q (.ref s.heap.objs.size) { s with heap := s.heap.push (itO a es.size ep) }) : wpAny (model prog w) A (pyIter (.ref a)) Q E s := by
  have hT := B.typeIs
  refine wpAny_pyIter_slot hT F.slot_set_iter (wpAny_call_entry F.slot_set_iter hT entry_set_iter ?_ (F.args_set_iter_1 _))
  unfold Builtin.«frozenset.__iter__» Builtin.Frozenset.slot0 slotArgs
  simp only [List.isEmpty_nil, Bool.not_true, Bool.false_eq_true, if_false, List.length_nil, bne_self_eq_false, bind_assoc]
  refine wpAny_bind (wpAny_pure ?_)
  unfold Builtin.Frozenset.addrOf
  refine wpAny_bind (wpAny_pure ?_)
  unfold Builtin.Frozenset.sizeOf
  refine wpAny_bind (wpAny_bind (wpAny_setEntries_of B.ho B.hd B.T.fits (wpAny_pure ?_)))
  refine wpAny_bind ?_
  unfold setDrawn
  refine wpAny_bind (wpAny_setState_of B.ho B.hd B.T.fits ?_)
  dsimp only
  refine wpAny_bind (byText ?_)
  have hdr : (!w.params.followText "set-order" && (!t.plain && decide (es.size > 1))) = false := by rw [B.pl]; simp
  refine wpAny_pure ?_
  show wpAny _ _ (if (!w.params.followText "set-order" && (!t.plain && decide (es.size > 1))) = true then _ else _) _ _ _
  rw [hdr]
  simp only [Bool.false_eq_true, if_false]
  refine wpAny_bind (wpAny_pure ?_)
  refine wpAny_bind (wpAny_setEpoch_of B.ho B.hd B.T.fits ?_)
  refine wpAny_bind (wpAny_newObj_type (wpAny_pure ⟨_, rfl, "set_iterator", _, ⟨_, Heap.get?_push_size _ rfl, rfl⟩, slot_si_next.lookup, ?_⟩))
  exact hQ
theorem walks_set (hh : A.handled = none) (o : Obj) (es : Array (Int × Value)) (ep : Nat) (t : SetTable) (a I : Addr) :
    WalksS prog w A I [I, a] [I] (fun x y => y = x) es.size (fun i v => ∃ e, (ordOf w a ep es)[i]? = some e ∧ e.2 = v) (SIt w a I o es ep t) where
  sub := fun b hb => by rw [List.mem_singleton.mp hb]; exact List.mem_cons_self
  grefl := fun _ => rfl
  gtrans := fun _ _ _ h1 h2 => h2.trans h1
  frame := fun i s h' tk st _ hk => by
    obtain ⟨B, ne, oi, slot, e, r⟩ := st
    exact ⟨⟨hk a (List.mem_cons_of_mem _ List.mem_cons_self) _ B.ho, B.hx, B.hd, B.T, B.pl, B.le⟩, ne, oi, slot, hk I List.mem_cons_self _ e, r⟩
  item := fun i s Q E hi st hQ => st.item hi fun e h' he st' sb => hQ e.2 _ ⟨e, he, rfl⟩ st' ⟨fun b o hb e => (sb.2 b (fun z => hb (List.mem_singleton.mpr z))).trans e, rfl, rfl, rfl, Nat.le_refl _⟩
  done := fun s Q E st hQ => st.fin hh fun h' eb => hQ _ ⟨fun b o hb e => eb b o (fun z => hb (List.mem_singleton.mpr z)) e, rfl, rfl, rfl, Nat.le_refl _⟩
  self := fun i s Q E st h => by
    refine wpAny_pyIter_slot st.typeIs slot_si_iter (wpAny_call_entry slot_si_iter st.typeIs entry_si_iter ?_ (args_si_iter _))
    show wpAny _ _ (ret (.ref I)) _ _ s
    exact wpAny_pure ⟨_, rfl, "set_iterator", _, st.typeIs, slot_si_next.lookup, h⟩
theorem Tb.keep {h h' : Heap} (B : Tb w h a o es ep t) (e : h'.get? a = some o) : Tb w h' a o es ep t := ⟨e, B.hx, B.hd, B.T, B.pl, B.le⟩
theorem items_eq {acc : Array Value} {l : Array (Int × Value)} (h : ItemsOf (fun i v => ∃ e, l[i]? = some e ∧ e.2 = v) acc l.size) : acc.toList = l.toList.map (·.2) := by
  obtain ⟨h1, h2⟩ := h
  refine List.ext_getElem? fun i => ?_
  rw [Array.getElem?_toList, List.getElem?_map, Array.getElem?_toList]
  by_cases c : i < l.size
  · have hi : i < acc.size := by omega
    obtain ⟨e, he, hv⟩ := h2 i acc[i] (by simp [hi])
    rw [he]
    simp [hi, hv]
  · have hi : ¬ i < acc.size := by omega
    simp [c, hi]
set_option maxHeartbeats 1000000 in
theorem collect_set {Q : List Value → Shared → Prop} (hh : A.handled = none) (B : Tb w s.heap a o es ep t)
    (hQ : ∀ s', (∀ b o, s.heap.get? b = some o → s'.heap.get? b = some o) → s'.gens = s.gens → s'.drawn = s.drawn → s'.os = s.os → s.heap.objs.size < s'.heap.objs.size → Q ((ordOf w a ep es).toList.map (·.2)) s') : wpAny (model prog w) A (collect (.ref a)) Q E s := by
  have hlt : a < s.heap.objs.size := Heap.lt_size B.ho
  have hn : es.size ≤ sizeLine := size_le (by have := B.T.small; omega)
  unfold collect
  refine wpAny_bind (wpAny_runValue (codeAny_builtin F.entry_proto_collect ?_))
  rw [Around.under_plainId F.plain_proto_collect _]
  refine wpAny_bind (m := newList []) (wpAny_newObj_type ?_)
  refine wpAny_pure ⟨plainId_quiet F.plain_list_iadd _, codeAny_builtin F.entry_list_iadd ?_⟩
  rw [Around.under_plainId F.plain_list_iadd _]
  have hS1 : (s.heap.push { cls := .type "list", data := .seq ([] : List Value).toArray }).get? s.heap.objs.size = some { cls := .type "list", data := .seq ([] : List Value).toArray } := Heap.get?_push_size _ rfl
  generalize hh1 : s.heap.push { cls := .type "list", data := .seq ([] : List Value).toArray } = h1 at hS1 ⊢
  have sz1 : h1.objs.size = s.heap.objs.size + 1 := by rw [← hh1, Heap.size_push]
  have k1 : ∀ b o, s.heap.get? b = some o → h1.get? b = some o := fun b o e => by rw [← hh1]; exact Heap.get?_push_of_some _ e
  have B1 : Tb w h1 a o es ep t := B.keep (k1 _ _ B.ho)
  show wpAny _ A.in1 (Builtin.List.listExtendWith (.ref s.heap.objs.size) (.ref a) (.ref s.heap.objs.size)) _ _ { s with heap := h1 }
  have ne : s.heap.objs.size ≠ a := Nat.ne_of_gt hlt
  have hT1 : Shared.TypeIs { s with heap := h1 } (.ref a) "set" := B1.typeIs (s := { s with heap := h1 })
  unfold Builtin.List.listExtendWith
  refine wpAny_bind (wpAny_typeOf hT1 ?_)
  have c1 : Builtin.List.listSameRef (.ref s.heap.objs.size) (.ref a) = false := by simp [Builtin.List.listSameRef, ne]
  rw [if_neg (by rw [c1]; decide)]
  refine wpAny_bind (iter_set (s := { s with heap := h1 }) B1 ?_)
  refine wpAny_bind (wpAny_holding ?_)
  have hI2 : (h1.push (itO a es.size ep)).get? h1.objs.size = some (itO a es.size ep) := Heap.get?_push_size _ rfl
  have k2 : ∀ b o, h1.get? b = some o → (h1.push (itO a es.size ep)).get? b = some o := fun b o e => Heap.get?_push_of_some _ e
  have B2 : Tb w (h1.push (itO a es.size ep)) a o es ep t := B1.keep (k2 _ _ B1.ho)
  have hS2 := k2 _ _ hS1
  show wpAny _ _ _ _ _ { s with heap := h1.push (itO a es.size ep) }
  generalize hh2 : h1.push (itO a es.size ep) = h2 at hI2 k2 B2 hS2 ⊢
  have hT2 : Shared.TypeIs { s with heap := h2 } (.ref a) "set" := B2.typeIs (s := { s with heap := h2 })
  unfold Builtin.List.listLengthHint
  refine wpAny_bind (wpAny_specialOf hT2 F.slot_set_len.lookup ?_)
  (generalize hid : ("set.__len__" : String) = id0; (fail_if_success (clear hid id0)); wp_delta; rw [show splitId id0 = some ("set", "__len__") from by subst hid; decide +kernel]; subst hid)
  refine wpAny_bind (wpAny_isInstance (b := true) hT2 (by rw [isSubtype_type]; kernel_rfl) ?_)
  simp only [Bool.not_true, Bool.false_eq_true, if_false]
  rw [if_pos (by decide +kernel)]
  refine wpAny_bind (wpAny_typeOf hT2 ?_)
  refine wpAny_pure ?_
  rw [if_pos (by decide +kernel)]
  refine wpAny_bind (wpAny_rule ?_)
  refine wpAny_bind ?_
  show wpAny _ A.in1 (updateSeq s.heap.objs.size (·.push .none) >>= fun _ => updateSeq s.heap.objs.size (·.pop)) _ _ _
  refine wpAny_bind (wpAny_updateSeq (s := { s with heap := h2 }) hS2 rfl ?_)
  have hS3 := Heap.get?_update_self (Obj.mapSeq (·.push Value.none)) hS2 rfl
  refine wpAny_updateSeq (s := { s with heap := h2.update s.heap.objs.size _ }) hS3 rfl ?_
  have hS4 := Heap.get?_update_self (Obj.mapSeq (·.pop)) hS3 rfl
  have oth : ∀ b o, b ≠ s.heap.objs.size → h2.get? b = some o → ((h2.update s.heap.objs.size (Obj.mapSeq (·.push Value.none))).update s.heap.objs.size (Obj.mapSeq (·.pop))).get? b = some o :=
    fun b o hb e => (Heap.get?_update_other _ _ (Ne.symm hb)).trans ((Heap.get?_update_other _ _ (Ne.symm hb)).trans e)
  have neI : h1.objs.size ≠ s.heap.objs.size := by rw [sz1]; exact Nat.succ_ne_self _
  have nea : a ≠ h1.objs.size := by rw [sz1]; exact Nat.ne_of_lt (Nat.lt_succ_of_lt hlt)
  have st0 : SIt w a h1.objs.size o es ep t 0 { s with heap := (h2.update s.heap.objs.size (Obj.mapSeq (·.push Value.none))).update s.heap.objs.size (Obj.mapSeq (·.pop)) } :=
    ⟨B2.keep (oth _ _ (Ne.symm ne) B2.ho), nea, _, 0, oth _ _ neI hI2, rfl, rfl, fun _ => below_zero B.T.ri⟩
  refine wpAny_pure ⟨plainId_quiet F.plain_extend_loop _, codeAny_extend_loopS (walks_set (A := A.in1) hh o es ep t a h1.objs.size) hn s.heap.objs.size ?_ _ es.size 0 _ _ _ rfl (Nat.zero_le _) st0 hS4 (ItemsOf.nil _) fun s' acc c' hm hS' hacc => ?_⟩
  · simp only [List.mem_cons, List.not_mem_nil, or_false]
    rintro (e | e)
    · exact neI e.symm
    · exact ne e
  · refine wpAny_bind (wpAny_load hS' ?_)
    have hac : acc.toList = (ordOf w a ep es).toList.map (·.2) := items_eq (by rw [ord_size]; exact hacc)
    show wpAny _ _ (pure acc.toList) _ _ _
    rw [hac]
    refine wpAny_pure (hQ s' (fun b o e => ?_) hm.gens hm.drawn hm.os (Heap.lt_size hS'))
    have hb : b < s.heap.objs.size := Heap.lt_size e
    refine hm.heap b o ?_ (oth b o (Nat.ne_of_lt hb) (k2 _ _ (k1 _ _ e)))
    simp only [List.mem_cons, List.not_mem_nil, or_false]
    rintro (e | e)
    · exact Nat.ne_of_lt hb e
    · rw [sz1] at e; exact Nat.ne_of_lt (Nat.lt_succ_of_lt hb) e
open PyProof.Rows PyProof.Rows.G in
theorem sorted_set {fs : List Value} {Q : Value → Shared → Prop} (hh : A.handled = none) (B : Tb w s.heap a o es ep t) (hsz : (ordOf w a ep es).size ≤ sizeLine)
    (ht : TupsOf s.heap (fun _ => false) ((ordOf w a ep es).toList.map (·.2)) fs) (hk : ∀ v, v ∈ (ordOf w a ep es).toList.map (·.2) → ∃ l, tupKeyC s.heap (fun _ => false) v = some l)
    (h : ∀ (st' : SortSt) (h' : Heap) (p tk : Nat) (e : Nat), (arrOf st').Perm (pairsOf ((ordOf w a ep es).toList.map (·.2))) → SortedToK (tupKindC s.heap fun _ => false) (arrOf st') (pairsOf ((ordOf w a ep es).toList.map (·.2))).size →
      (∀ b o, s.heap.get? b = some o → h'.get? b = some o) → s.heap.objs.size ≤ p → h'.get? p = some (seqObj "list" ((arrOf st').map (·.2)) e) → Q (.ref p) { s with heap := h', toks := tk }) :
    wpAny (model prog w) A (call (.builtin "sorted") [.ref a]) Q E s := by
  refine Calls.call_function_entry kind_sorted plain_sorted entry_sorted (args_sorted1 _) ?_
  unfold Builtin.«sorted»
  refine wpAny_bind (m := checkCount "sorted" 1 1 _) (wpAny_pure ?_)
  refine wpAny_bind (collect_set (A := A.in1) hh B fun s' hkeep e1 e2 e3 hlt => ?_)
  have es' : s' = { s with heap := s'.heap, toks := s'.toks } := by
    obtain ⟨h1, g1, d1, t1, o1⟩ := s'
    simp only at e1 e2 e3
    subst e1; subst e2; subst e3
    rfl
  rw [es']
  clear e1 e2 e3 es'
  generalize s'.heap = h1 at hkeep hlt ⊢
  generalize s'.toks = tk
  generalize hvs : (ordOf w a ep es).toList.map (·.2) = vs at ht hk h ⊢
  have hlen : vs.length ≤ sizeLine := by rw [← hvs]; simpa using hsz
  refine wpAny_bind (wpAny_newList ?_)
  have hoL : (h1.push (seqObj "list" vs.toArray 0)).get? h1.objs.size = some (seqObj "list" vs.toArray 0) := Heap.get?_push_size _ rfl
  have k1 : ∀ b o, s.heap.get? b = some o → (h1.push (seqObj "list" vs.toArray 0)).get? b = some o := fun b o e => Heap.get?_push_of_some _ (hkeep b o e)
  have kt : KeepsTups s.heap (h1.push (seqObj "list" vs.toArray 0)) := fun b o e _ => k1 b o e
  have k6 := kt.trans (keeps_sort6 (vs := vs) hoL)
  show wpAny _ _ _ _ _ { s with heap := h1.push (seqObj "list" vs.toArray 0), toks := tk }
  refine wpAny_bind (wpAny_holding (wpAny_call_entry slot_list_sort (s := { s with heap := h1.push (seqObj "list" vs.toArray 0), toks := tk }) ⟨_, hoL, rfl⟩ entry_list_sort
    (list_sort_treeG (s := { s with heap := h1.push (seqObj "list" vs.toArray 0), toks := tk }) (κ := tupKindC s.heap fun _ => false) hoL (tupKeys hk) (tupC_ltAt true k6) ?kd hlen fun st' a1 a2 a3 => ⟨_, rfl, ?rt⟩) (args_list_sort _)))
  case kd =>
    intro h2 R hq
    exact tup_kind (by rw [TupsOf.length ht]; omega) (TupsOf.keep k6 ht) hq
  case rt =>
    obtain ⟨e, he⟩ := sortedHeap_at (vs := vs) (out := (arrOf st').map (·.2)) hoL
    have le : s.heap.objs.size ≤ h1.objs.size := Nat.le_of_lt hlt
    exact wpAny_pure ⟨_, rfl, h st' _ _ tk e a1 a2 (fun b o eb => by
      have hb : b < s.heap.objs.size := Heap.lt_size eb
      rw [sortedHeap_old (Nat.ne_of_lt (Nat.lt_of_lt_of_le hb le)) (Heap.lt_size (k1 b o eb))]
      exact k1 b o eb) le he⟩
end
end SetM

end
section
set_option Elab.async false
set_option linter.all false
set_option maxRecDepth 100000
namespace L2
open PySem PySem.Spec PyProof.Rows SetM
/-! ### a set of pairs of ints -/
abbrev Mem := Addr × Int × Int
def entM (P : Program) (w : World) (m : Mem) : Int × Value := (hashT P w [m.2.1, m.2.2], .ref m.1)
def SetO (P : Program) (w : World) (a : Addr) (ms : List Mem) : HO := .ext fun h => SetAt w h a (ms.map (entM P w))
/-- the members are pairs -/
def MsOk (H : Hp) (ms : List Mem) : Prop := ∀ m ∈ ms, H m.1 = some (.tup [.int m.2.1, .int m.2.2])
section
variable {X : Cx} {pins : List (Addr × Obj)} {σ : St} {H : Hp} {s : Shared} {a c : Addr} {ms : List Mem} {i j : Int}
theorem setO_ok {P : Program} {w : World} {H : Hp} {h : Heap} (x : SetAt w h a (ms.map (entM P w))) : ObjOk P w H h a (SetO P w a ms) :=
  ⟨x, let ⟨o, _, _, _, e, _⟩ := x; ⟨o, e⟩, fun _ _ y k => y.keep k⟩
theorem Inv.setAt (I : Inv X pins σ H s) (h : H a = some (SetO X.prog X.w a ms)) : SetAt X.w s.heap a (ms.map (entM X.prog X.w)) := (I.hok a _ h).1
theorem Inv.keyT (I : Inv X pins σ H s) (h : H c = some (.tup [.int i, .int j])) : IsTupleKey (ik X.prog X.w) s.heap [i, j] c := by
  obtain ⟨_, its, rv, ⟨o, ho, hc, n, hd⟩⟩ := I.hok c _ h
  cases rv with
  | cons r1 r2 =>
    cases r2 with
    | cons r2 r3 =>
      cases r3
      obtain ⟨ti, rfl⟩ := r1
      obtain ⟨tj, rfl⟩ := r2
      exact ⟨o, _, n, ho, hc, hd.1, .cons (intKind_is ..) (.cons (intKind_is ..) .nil)⟩
theorem Inv.els (I : Inv X pins σ H s) (h : MsOk H ms) (hn : (i, j) ∉ ms.map (·.2)) : Els X.prog X.w s.heap (ms.map (entM X.prog X.w)) [i, j] := by
  intro e he
  obtain ⟨m, hm, rfl⟩ := List.mem_map.mp he
  refine ⟨[m.2.1, m.2.2], ⟨m.1, rfl, I.keyT (h m hm)⟩, fun z => hn ?_⟩
  injection z with z1 z2
  injection z2 with z2 _
  exact List.mem_map.mpr ⟨m, hm, by rw [← z1, ← z2]⟩
/-- set() -/
def rSet0 (P : Program) (w : World) : List V → Hp → VK → Prop := fun vs H Q => vs = [] ∧ ∀ p, H p = none → Q (.ref p) (upd H p (SetO P w p []))
theorem cr_set0 : CallR X (.type "set") (rSet0 X.prog X.w) := by
  intro pins s σ H vs us Q I r h
  obtain ⟨rfl, q⟩ := h
  cases r
  refine call_set ⟨.ref _, _, I.laid (t' := s.toks) (fun b u e => Heap.get?_push_of_some _ e) (Nat.le_refl _) (setO_ok newO_at), rfl, q _ (I.hok.fresh (Nat.le_refl _))⟩
/-- x in s, where it is not -/
def rInS (P : Program) (w : World) : R2 := fun x y H Q => ∃ a c i j ms, x = .ref c ∧ y = .ref a ∧ H c = some (.tup [.int i, .int j]) ∧ H a = some (SetO P w a ms) ∧ MsOk H ms ∧ (i, j) ∉ ms.map (·.2) ∧ Q (.bl false) H
/-- s.add(x), where it is not -/
def rAddS (P : Program) (w : World) : V → List V → Hp → VK → Prop := fun x vs H Q => ∃ a c i j ms, x = .ref a ∧ vs = [.ref c] ∧ H c = some (.tup [.int i, .int j]) ∧ H a = some (SetO P w a ms) ∧
  MsOk H ms ∧ (i, j) ∉ ms.map (·.2) ∧ ms.length < 306 ∧ Q .non (upd H a (SetO P w a ((c, i, j) :: ms)))
theorem mt_addS (hu : X.A.units + 1 < cLine) : MtR X "set.add" (rAddS X.prog X.w) := by
  intro pins s σ H x vs v us Q I rx rv h
  obtain ⟨a, c, i, j, ms, rfl, rfl, hc, ha, hm, hn, hl, q⟩ := h
  cases rx
  rw [Vals.ref1 rv]
  refine call_add hu (I.setAt ha) (by rw [List.length_map]; exact hl) (I.keyT hc) (I.els hm hn) fun h' sb hs => ?_
  have ho : ∃ o, h'.get? a = some o := let ⟨o, _, _, _, e, _⟩ := hs; ⟨o, e⟩
  exact ⟨.non, _, I.write (t' := s.toks + _) (by rw [ha]; trivial) (.inl rfl) (fun b u hb e => (sb.2 b hb).trans e) ho (setO_ok (ms := (c, i, j) :: ms) hs), rfl, q⟩
def tSM (P : Program) (w : World) (r : V → List V → Hp → VK → Prop) (to : TE) (t : TA) : TE := fun σ H Q => to σ H fun x H1 => (∃ a ms, x = .ref a ∧ H1 a = some (SetO P w a ms)) ∧ t σ H1 fun xs H2 => r x xs H2 Q
variable {o e : Expr} {es : List Expr} {to : TE} {t : TA} {name : Str} {apos cpos : Pos} {id : String} {r : V → List V → Hp → VK → Prop}
theorem pe_sm (slot : Slot "set" name id) (hty : typeOf (.builtin id) = pure (.type "method_descriptor")) (hm : MtR X id r) (ho : PE X o to) (ha : PA X (e :: es) t)
    (hbase : attributeBase o name X.env (eval o X.env) = eval o X.env := by rfl)
    (hfew : ((backTo cpos (starEach (e :: es) X.env)).all (fun x => !x.1) && (backToKw cpos (keywordEach [] X.env)).all (fun x => x.1.isSome)
      && decide ((e :: es).length + ([] : List Keyword).length + (if ([] : List Keyword).isEmpty then 0 else 1) < 30)) = true := by rfl)
    (hline : (apos.endLine == cpos.line) = true := by rfl) (hs : starEach (e :: es) X.env = (false, eval e X.env) :: starEach es X.env := by rfl) (hplain : (backTo cpos (starEach es X.env)).any (·.1) = false := by rfl) :
    PE X (.Call (.Attribute o name apos) (e :: es) [] cpos) (tSM X.prog X.w r to t) := by
  intro pins s σ H Q I h
  refine wpAny_Call_method_late hbase hfew hline rfl (thn (ho pins s σ H _ I h) fun v s1 ⟨x, H1, I1, r1, ty, q1⟩ => ?_)
  obtain ⟨a, ms, rfl, hH⟩ := ty
  cases r1
  obtain ⟨so, _, _, _, eo, ex, _⟩ := I1.setAt hH
  refine ⟨"set", id, F.plainAttrs_set, slot, hty, ⟨so, eo, ex.1⟩, fun b e => by cases e; exact ⟨so, eo, ex.2.1⟩, ?_⟩
  have hA := ha cpos pins s1 σ H1 _ I1 q1
  rw [hs] at hA ⊢
  refine Calls.callWith_builtin (by show (false || (backTo cpos (starEach es X.env)).any (·.1)) = false; rw [hplain] <;> rfl) (Calls.evalArgs_plain ?_)
  exact thn hA fun us s2 ⟨vs, H2, I2, r2, q2⟩ => hm pins s2 σ H2 (.ref a) vs (.ref a) us Q I2 rfl r2 q2
/-! ### sorted(s) -/
def rSortedSet (P : Program) (w : World) : List V → Hp → VK → Prop := fun vs H Q => ∃ (a : Addr) (ms : List Mem), vs = [V.ref a] ∧ H a = some (SetO P w a ms) ∧ MsOk H ms ∧ ms.length ≤ 306 ∧
  ∀ (ys : List V) (p : Addr), ys.Perm (ms.map fun m => V.ref m.1) → (ys.map (gP H)).Pairwise le2 → H p = none → Q (.ref p) (upd H p (.lst ys))
open PyProof.Rows.G in
theorem sorted_gen {o : Obj} {es : Array (Int × Value)} {ep : Nat} {t : SetTable} {Q : VK} (hh : X.A.handled = none) (I : Inv X pins σ H s) (B : Tb X.w s.heap a o es ep t) (hp : es.toList.Perm (ms.map (entM X.prog X.w)))
    (hm : MsOk H ms) (hl : ms.length ≤ 306) (q : ∀ (ys : List V) (p : Addr), ys.Perm (ms.map fun m => V.ref m.1) → (ys.map (gP H)).Pairwise le2 → H p = none → Q (.ref p) (upd H p (.lst ys))) :
    wpAny (model X.prog X.w) X.A (call (.builtin "sorted") [.ref a]) (EP X pins σ Q) X.xe s := by
  -- the values that the walk tells
  have pv : ((ordOf X.w a ep es).toList.map (·.2)).Perm (ms.map fun m => Value.ref m.1) := by
    have := ((ord_perm X.w a ep es).trans hp).map (·.2)
    rw [List.map_map] at this
    exact this
  generalize hits : (ordOf X.w a ep es).toList.map (·.2) = its at pv
  have hsz : (ordOf X.w a ep es).size ≤ sizeLine := by
    have := pv.length_eq
    rw [← hits, List.length_map, Array.length_toList, List.length_map] at this
    rw [this]
    exact size_le (by omega)
  have key : ∀ v ∈ its, ∃ b i j, v = .ref b ∧ H b = some (.tup [.int i, .int j]) ∧ (∃ o n ti tj, s.heap.get? b = some o ∧ o.cls = .type "tuple" ∧ o.data = .seq #[.int i ti, .int j tj] n) := by
    intro v hv
    obtain ⟨m, hmm, rfl⟩ := List.mem_map.mp (pv.mem_iff.mp hv)
    have hb := hm m hmm
    obtain ⟨_, its', rv', ⟨o, ho, hc, n, hd⟩⟩ := I.hok m.1 _ hb
    cases rv' with
    | cons r1 r2 =>
      cases r2 with
      | cons r2 r3 =>
        cases r3
        obtain ⟨ti, rfl⟩ := r1
        obtain ⟨tj, rfl⟩ := r2
        exact ⟨m.1, m.2.1, m.2.2, rfl, hb, o, n, ti, tj, ho, hc, hd.1⟩
  have keyC : ∀ v ∈ its, ∃ b i j, v = .ref b ∧ H b = some (.tup [.int i, .int j]) ∧ tupKeyC s.heap (fun _ => false) v = some [Sum.inl i, Sum.inl j] := by
    intro v hv
    obtain ⟨b, i, j, rfl, hb, o, n, ti, tj, ho, hc, hd⟩ := key v hv
    refine ⟨b, i, j, rfl, hb, ?_⟩
    unfold tupKeyC
    have e : isTupObj s.heap (.ref b) = true := by simp [isTupObj, ho, hc]
    rw [if_pos e]
    simp [tupKey, ho, hd, tupItems]
  have tups : ∀ l : List Value, (∀ v ∈ l, v ∈ its) → ∃ fs, TupsOf s.heap (fun _ => false) l fs := by
    intro l
    induction l with
    | nil => exact fun _ => ⟨[], .nil⟩
    | cons v l ih =>
      intro hv
      obtain ⟨fs, hf⟩ := ih fun w hw => hv w (List.mem_cons_of_mem _ hw)
      obtain ⟨b, i, j, rfl, hb, o, n, ti, tj, ho, hc, hd⟩ := key v (hv v (List.mem_cons_self ..))
      exact ⟨.int i ti :: fs, .cons ⟨b, o, _, n, rfl, ho, hc, hd, rfl, fun _ => ⟨i, ti, rfl⟩, fun z => by cases z⟩ hf⟩
  obtain ⟨fs, hf⟩ := tups its fun v hv => hv
  refine sorted_set (fs := fs) hh B hsz (by rw [hits]; exact hf) (by rw [hits]; exact fun v hv => let ⟨_, _, _, _, _, e⟩ := keyC v hv; ⟨_, e⟩) ?_
  rw [hits]
  intro st' h' p tk ep' p1 p2 keep hpp he'
  have pl : (arrOf st').toList.Perm (its.zip its) := by rw [← pairsOf_toList]; exact p1.toList
  have same : ∀ p ∈ (arrOf st').toList, p.1 = p.2 ∧ p.1 ∈ its := fun p hpm => mem_zip_self (pl.mem_iff.mp hpm)
  have ol : ((arrOf st').map (·.2)).toList = (arrOf st').toList.map (·.2) := by simp
  have op : ((arrOf st').toList.map (·.2)).Perm its := by
    have := pl.map (·.2)
    rw [List.map_snd_zip (Nat.le_refl _)] at this
    exact this
  have bx : (its.map backV).Perm (ms.map fun m => V.ref m.1) := by
    have := pv.map backV
    rw [List.map_map] at this
    exact this
  have bv : ∀ l : List Value, (∀ v ∈ l, v ∈ its) → Vals (l.map backV) l := by
    intro l
    induction l with
    | nil => exact fun _ => .nil
    | cons v l ih =>
      intro hv
      obtain ⟨b, i, j, rfl, _⟩ := key v (hv v (List.mem_cons_self ..))
      exact .cons rfl (ih fun w hw => hv w (List.mem_cons_of_mem _ hw))
  have yp : (((arrOf st').toList.map (·.2)).map backV).Perm (ms.map fun m => V.ref m.1) := (op.map backV).trans bx
  have ylen : (((arrOf st').toList.map (·.2)).map backV).length ≤ sizeLine := by rw [yp.length_eq, List.length_map]; exact size_le (by omega)
  have ysort : ((((arrOf st').toList.map (·.2)).map backV).map (gP H)).Pairwise le2 := by
    rw [List.pairwise_iff_getElem]
    intro i j hi hj hij
    simp only [List.length_map, Array.length_toList] at hi hj
    have hsz : (pairsOf its).size = (arrOf st').size := p1.size_eq.symm
    have := p2 i j (Nat.le_of_lt hij) (by rw [hsz]; exact hj)
    simp only [List.getElem_map]
    have g : ∀ (k : Nat) (hk : k < (arrOf st').size), ∃ c d, KK (tupKindC s.heap fun _ => false) (arrOf st') k = [Sum.inl c, Sum.inl d] ∧ gP H (backV ((arrOf st').toList[k]'(by simpa using hk)).2) = (c, d) := by
      intro k hk
      have hm : (arrOf st').toList[k]'(by simpa using hk) ∈ (arrOf st').toList := List.getElem_mem _
      obtain ⟨e1, e2⟩ := same _ hm
      obtain ⟨b, c, d, e3, hb, e4⟩ := keyC _ e2
      refine ⟨c, d, ?_, ?_⟩
      · unfold KK
        have : (arrOf st')[k]? = some ((arrOf st').toList[k]'(by simpa using hk)) := by simp [hk]
        rw [this]
        show ((tupKeyC s.heap (fun _ => false) _).getD _) = _
        rw [e4]; rfl
      · rw [← e1, e3]
        show gP H (.ref b) = (c, d)
        simp [gP, hb]
    obtain ⟨c1, d1, k1, g1⟩ := g i hi
    obtain ⟨c2, d2, k2, g2⟩ := g j hj
    rw [k1, k2] at this
    rw [g1, g2]
    show c1 < c2 ∨ (c1 = c2 ∧ d1 ≤ d2)
    have hb : (decide (c2 < c1) || (!decide (c1 < c2) && (decide (d2 < d1) || (!decide (d1 < d2) && false)))) = false := this
    rw [Bool.or_eq_false_iff] at hb
    obtain ⟨h1, h2⟩ := hb
    have h1 := of_decide_eq_false h1
    by_cases c : c1 < c2
    · exact .inl c
    · rw [decide_eq_false c] at h2
      simp at h2
      exact .inr ⟨by omega, by omega⟩
  refine ⟨.ref _, upd H p (.lst (((arrOf st').toList.map (·.2)).map backV)), I.laid (t' := tk) keep hpp ⟨ylen, (arrOf st').toList.map (·.2), ep', bv _ (fun v hv => op.mem_iff.mp hv), ?_⟩, rfl, q _ _ yp ysort (I.hok.fresh hpp)⟩
  rw [← ol, Array.toArray_toList]
  exact he'
theorem cr_sortedSet (hh : X.A.handled = none) : CallR X (.builtin "sorted") (rSortedSet X.prog X.w) := by
  intro pins s σ H vs us Q I r h
  obtain ⟨a, ms, rfl, ha, hm, hl, q⟩ := h
  rw [Vals.ref1 r]
  obtain ⟨o, es, ep, t, ho, hx, hd, T, hpl, hle, hp, _⟩ := I.setAt ha
  exact sorted_gen hh I ⟨ho, hx, hd, T.toD, hpl, hle⟩ hp hm hl q
end
end L2

end
section
set_option Elab.async false
set_option linter.all false
set_option maxRecDepth 100000
namespace L2
open PySem PySem.Spec PyProof.Rows SetM PySem.SetTable
/-! ### one set less another -/
def MsAt (P : Program) (w : World) (h : Heap) (ms : List Mem) : Prop := ∀ m ∈ ms, IsTupleKey (ik P w) h [m.2.1, m.2.2] m.1
theorem MsAt.keep {P : Program} {w : World} {h h' : Heap} {ms : List Mem} {r : Addr} (x : MsAt P w h ms) (sb : Heap.SameBut r h h') (hr : ∀ m ∈ ms, m.1 ≠ r) : MsAt P w h' ms := fun m hm => by
  obtain ⟨o, items, n, ho, q⟩ := x m hm
  exact ⟨o, items, n, (sb.2 _ (hr m hm)).trans ho, q⟩
theorem MsAt.els {P : Program} {w : World} {h : Heap} {ms : List Mem} (x : MsAt P w h ms) {k : Int × Int} (hn : k ∉ ms.map (·.2)) : Els P w h (ms.map (entM P w)) [k.1, k.2] := by
  intro e he
  obtain ⟨m, hm, rfl⟩ := List.mem_map.mp he
  refine ⟨[m.2.1, m.2.2], ⟨m.1, rfl, x m hm⟩, fun z => hn ?_⟩
  injection z with z1 z2
  injection z2 with z2 _
  exact List.mem_map.mpr ⟨m, hm, Prod.ext z1 z2⟩
theorem MsAt.all {P : Program} {w : World} {h : Heap} {ms : List Mem} (x : MsAt P w h ms) : ∀ e ∈ ms.map (entM P w), ∃ ks', El P w h e ks' := fun e he => by
  obtain ⟨m, hm, rfl⟩ := List.mem_map.mp he
  exact ⟨_, m.1, rfl, x m hm⟩
theorem MsAt.one {P : Program} {w : World} {h : Heap} {ms : List Mem} (x : MsAt P w h ms) {m : Mem} (hm : m ∈ ms) : El P w h (entM P w m) [m.2.1, m.2.2] := ⟨m.1, rfl, x m hm⟩
section
variable {prog : Program} {w : World} {A : Around} {E : Value → Shared → Prop} {s : Shared}
end
end L2

end
section
set_option Elab.async false
set_option linter.all false
set_option maxRecDepth 100000
namespace L2
open PySem PySem.Spec PyProof.Rows SetM PySem.SetTable
section
variable {prog : Program} {w : World} {A : Around} {E : Value → Shared → Prop} {s : Shared}
def lessK (ms ns : List Mem) : List Mem := ms.filter fun m => decide (m.2 ∉ ns.map (·.2))
end
end L2

end
section
set_option Elab.async false
set_option linter.all false
set_option maxRecDepth 100000
namespace L2
open PySem PySem.Spec PyProof.Rows SetM PySem.SetTable
section
variable {prog : Program} {w : World} {A : Around} {E : Value → Shared → Prop} {s : Shared}
end
end L2

end
section
set_option Elab.async false
set_option linter.all false
set_option maxRecDepth 100000
namespace L2
open PySem PySem.Spec PyProof.Rows SetM PySem.SetTable
def SetDO (P : Program) (w : World) (a : Addr) (ms : List Mem) : HO := .ext fun h => ∃ m d, SetDAt w h a (ms.map (entM P w)) m d
section
variable {X : Cx} {pins : List (Addr × Obj)} {σ : St} {H : Hp} {s : Shared} {a c : Addr} {ms : List Mem} {i j : Int}
/-- one set less another, which is part of it -/
def rSubS (P : Program) (w : World) : R2 := fun x y H Q => ∃ a b ms ns, x = .ref a ∧ y = .ref b ∧ H a = some (SetO P w a ms) ∧ H b = some (SetO P w b ns) ∧ MsOk H ms ∧ MsOk H ns ∧ (ms.map (·.2)).Nodup ∧ (ns.map (·.2)).Nodup ∧
  (∀ n ∈ ns, n.2 ∈ ms.map (·.2)) ∧ ms.length ≤ 190 ∧ ∀ p, H p = none → Q (.ref p) (upd H p (SetDO P w p (lessK ms ns)))
/-- sorted of such a set -/
def rSortedD (P : Program) (w : World) : List V → Hp → VK → Prop := fun vs H Q => ∃ (a : Addr) (ms : List Mem), vs = [V.ref a] ∧ H a = some (SetDO P w a ms) ∧ MsOk H ms ∧ ms.length ≤ 306 ∧
  ∀ (ys : List V) (p : Addr), ys.Perm (ms.map fun m => V.ref m.1) → (ys.map (gP H)).Pairwise le2 → H p = none → Q (.ref p) (upd H p (.lst ys))
end
end L2

end
section
set_option Elab.async false
set_option linter.all false
set_option maxRecDepth 100000
namespace L2
open PySem PySem.Spec PyProof.Rows SetM PySem.SetTable
section
variable {prog : Program} {w : World} {A : Around} {E : Value → Shared → Prop} {R : Result → Shared → Prop} {s : Shared}
end
end L2

end
section
set_option Elab.async false
set_option linter.all false
set_option maxRecDepth 100000
namespace L2
open PySem PySem.Spec PyProof.Rows SetM PySem.SetTable
section
variable {prog : Program} {w : World} {A : Around} {E : Value → Shared → Prop} {s : Shared}
end
section
variable {X : Cx}
/-- set(t) of a tuple of pairs, no two alike -/
def rSetT (K : PySem.W.Frag) (P : Program) (w : World) : List V → Hp → VK → Prop := fun vs H Q => ∃ t ms, vs = [.ref t] ∧ SqT K H t (ms.map fun m => V.ref m.1) ∧ MsOk H ms ∧ (ms.map (·.2)).Nodup ∧ ms.length ≤ 306 ∧
  ∀ p, H p = none → Q (.ref p) (upd H p (SetO P w p ms))
end
end L2

end
section
set_option Elab.async false
set_option linter.all false
set_option maxRecDepth 100000
namespace Wb
open PySem L2
section
variable {P : Program} {w : World} {K : PySem.W.Frag} {mg : Str → Option Value} {base : Heap}
theorem gP_of {H : Hp} : ∀ {xs : List V} {ps : List Pr}, PairsAt H xs ps → xs.map (gP H) = ps ∧ ∀ v ∈ xs, IsP H v
  | _, _, .nil => ⟨rfl, fun v h => by cases h⟩
  | _, _, .cons ⟨a, e, h⟩ t => by
    obtain ⟨h1, h2⟩ := gP_of t
    subst e
    refine ⟨?_, fun v hv => ?_⟩
    · rw [List.map_cons, h1]
      congr 1
      show gP H (.ref a) = _
      simp [gP, h]
    · rcases List.mem_cons.mp hv with rfl | hv
      · exact ⟨a, _, _, rfl, h⟩
      · exact h2 v hv
theorem pairs_of_isP {H : Hp} : ∀ {ys : List V}, (∀ v ∈ ys, IsP H v) → PairsAt H ys (ys.map (gP H))
  | [], _ => .nil
  | y :: ys, h => by
    obtain ⟨a, i, j, e, hh⟩ := h y (by simp)
    refine .cons ⟨a, e, ?_⟩ (pairs_of_isP fun v hv => h v (List.mem_cons_of_mem _ hv))
    rw [hh, e]
    simp [gP, hh]
/-! ### is_int, is_place, are_two_places, lesser_first -/
def isI : V → Bool
  | .int _ => true
  | _ => false
def isPl (m : Int) : V → Bool
  | .int i => decide (0 ≤ i) && decide (i < m)
  | _ => false
def isTwo (m : Int) (x y : V) : Bool := isPl m x && isPl m y && !decide (x = y)
end
/-! ### all pairs -/
theorem mem_rows {n k : Nat} (hk : k ≤ n) {p : Pr} : p ∈ rows n k ↔ 0 ≤ p.1 ∧ p.1 < k ∧ p.1 < p.2 ∧ p.2 < n := by
  constructor
  · intro hp
    obtain ⟨a, ha, hp⟩ := List.mem_flatMap.mp hp
    obtain ⟨j, hj, rfl⟩ := List.mem_map.mp hp
    have := List.mem_range.mp ha
    have := List.mem_range.mp hj
    refine ⟨by show 0 ≤ (a : Int); omega, by show (a : Int) < k; omega, by show (a : Int) < (a : Int) + 1 + (j : Int); omega, by show (a : Int) + 1 + (j : Int) < n; omega⟩
  · rintro ⟨h0, h1, h2, h3⟩
    refine List.mem_flatMap.mpr ⟨p.1.toNat, List.mem_range.mpr (by omega), List.mem_map.mpr ⟨(p.2 - p.1 - 1).toNat, List.mem_range.mpr (by omega), ?_⟩⟩
    refine Prod.ext ?_ ?_
    · show ((p.1.toNat : Nat) : Int) = p.1
      omega
    · show ((p.1.toNat : Nat) : Int) + 1 + (((p.2 - p.1 - 1).toNat : Nat) : Int) = p.2
      omega
theorem rows_190 : ∀ n : Nat, n < 21 → (rows n n).length ≤ 190 := by decide +kernel
theorem good_sub {n : Nat} {ps : List Pr} (g : Good n ps) : ∀ p ∈ ps, p ∈ rows n n := fun p hp => by
  obtain ⟨h0, h1, h2⟩ := g.lo p hp
  exact (mem_rows (Nat.le_refl _)).mpr ⟨h0, by omega, h1, h2⟩
theorem nodup_len {α : Type} [DecidableEq α] : ∀ (l m : List α), l.Nodup → (∀ x ∈ l, x ∈ m) → l.length ≤ m.length
  | [], m, _, _ => Nat.zero_le _
  | x :: l, m, nd, h => by
    obtain ⟨n1, n2⟩ := List.nodup_cons.mp nd
    have hx := h x List.mem_cons_self
    have := nodup_len l (m.erase x) n2 fun y hy => (List.mem_erase_of_ne (fun e => n1 (by rw [← e]; exact hy))).mpr (h y (List.mem_cons_of_mem _ hy))
    rw [List.length_erase_of_mem hx] at this
    have : 0 < m.length := List.length_pos_of_mem hx
    rw [List.length_cons]
    omega
theorem good_190 {n : Nat} {ps : List Pr} (g : Good n ps) (hn : n ≤ 20) : ps.length ≤ 190 :=
  Nat.le_trans (nodup_len ps (rows n n) g.nodup (good_sub g)) (rows_190 n (by omega))
/-- the pairs without a tie -/
def unt (n : Nat) (ps : List Pr) : List Pr := (rows n n).filter fun p => decide (p ∉ ps)
end Wb

end
section
set_option Elab.async false
set_option linter.all false
set_option maxRecDepth 100000
namespace Wb
open PySem L2
section
variable {K : PySem.W.Frag}
abbrev rMin2 : List V → Hp → VK → Prop := fun xs H Q => ∃ i j, xs = [.int i, .int j] ∧ Q (.int (if j < i then j else i)) H
abbrev rMax2 : List V → Hp → VK → Prop := fun xs H Q => ∃ i j, xs = [.int i, .int j] ∧ Q (.int (if j > i then j else i)) H
abbrev rInt1 : List V → Hp → VK → Prop := fun xs H Q => (∃ i, xs = [.int i] ∧ Q (.int i) H) ∨ ∃ k, xs = [.bl k] ∧ Q (.int (if k then 1 else 0)) H
abbrev rTupOf (K : PySem.W.Frag) : List V → Hp → VK → Prop := fun xs H Q => ∃ p ys, xs = [.ref p] ∧ ((SqL K H p ys ∧ ∀ l, H l = none → Q (.ref l) (upd H l (.tup ys))) ∨ (SqT K H p ys ∧ Q (.ref p) H))
abbrev rListOf (K : PySem.W.Frag) : List V → Hp → VK → Prop := fun xs H Q => ∃ p ys, xs = [.ref p] ∧ (SqL K H p ys ∨ SqT K H p ys) ∧ ∀ l, H l = none → Q (.ref l) (upd H l (.lst ys))
abbrev rLen (K : PySem.W.Frag) : List V → Hp → VK → Prop := fun xs H Q => ∃ p ys, xs = [.ref p] ∧ (SqL K H p ys ∨ SqT K H p ys) ∧ Q (.int ys.length) H
theorem sqT_upd {H : Hp} {t D : Addr} {xs ys : List V} {o : HO} (h : SqT K H t xs) (hD : H D = some (.lst ys)) : SqT K (upd H D o) t xs := by
  rcases h with (h | ⟨ob, h⟩) | h
  · refine .inl (.inl ?_)
    rw [upd_ne (ne_of h hD (by intro z; cases z))]; exact h
  · refine .inl (.inr ⟨ob, ?_⟩)
    rw [upd_ne (ne_of h hD (by intro z; cases z))]; exact h
  · exact .inr h
theorem TupsAt.same {H H' : Hp} {xs : List V} {nss : List (List Int)} (s : Same H H') (h : TupsAt K H xs nss) : TupsAt K H' xs nss := L2.Paired.mapP h fun v ns ⟨t, e, q⟩ => ⟨t, e, s.sqT q⟩
theorem TupsAt.lst {H : Hp} {D : Addr} {xs ys : List V} {o : HO} {nss : List (List Int)} (hD : H D = some (.lst ys)) (h : TupsAt K H xs nss) : TupsAt K (upd H D o) xs nss := L2.Paired.mapP h fun v ns ⟨t, e, q⟩ => ⟨t, e, sqT_upd q hD⟩
theorem sorted_prs {H : Hp} {xs ys : List V} {rs : List Pr} (hx : PairsAt H xs rs) (hperm : ys.Perm xs) : PairsAt H ys (ys.map (gP H)) ∧ (ys.map (gP H)).Perm rs := by
  obtain ⟨g1, g2⟩ := gP_of hx
  refine ⟨pairs_of_isP fun v hv => g2 v (hperm.mem_iff.mp hv), ?_⟩
  have := hperm.map (gP H)
  rwa [g1] at this
end
end Wb

end
section
set_option Elab.async false
set_option linter.all false
set_option maxRecDepth 100000
namespace L2
open PySem PySem.Spec PyProof.Rows

/-! ### exceptions: how one lies behind a call -/
/-- an exception of the class at C with a traceback at T -/
def TrAt (h : Heap) (x T C : Addr) : Prop := ∃ oe vs oT ts a0, h.get? x = some oe ∧ (oe.cls = .ref C ∧ vs[0]? = some a0) ∧ oe.data = .fields vs ∧ vs[1]? = some (.ref T) ∧ T ≠ x ∧ h.get? T = some oT ∧ oT.data = .fields ts ∧ ts[3]? = some .none
/-- E: class, address, heap -/
def CX1 (P : Program) (w : World) : CXT := fun outer H s E e s' => ∃ x T C H', e = .ref x ∧ s'.os = s.os ∧ AllBare s'.gens ∧ Un (frs outer) [] H H' s.heap s'.heap ∧ HOk P w H' s'.heap ∧
  H' x = none ∧ H' T = none ∧ s.heap.get? x = none ∧ s.heap.get? T = none ∧ TrAt s'.heap x T C ∧ E (.ref C) (some x) H'

theorem ObjOk.there {P : Program} {w : World} {H : Hp} {h : Heap} {a : Addr} {o : HO} (x : ObjOk P w H h a o) : ∃ u, h.get? a = some u := by
  cases o with
  | lst xs => obtain ⟨_, _, _, _, e⟩ := x; exact ⟨_, e⟩
  | tup xs => obtain ⟨_, _, _, ob, e, _⟩ := x; exact ⟨_, e⟩
  | dK kvs => obtain ⟨_, _, _, _, o, _, _, e, _⟩ := x; exact ⟨_, e⟩
  | dT kvs => obtain ⟨_, _, _, _, o, _, _, e, _⟩ := x; exact ⟨_, e⟩
  | set S n => obtain ⟨o, _, _, _, e, _⟩ := x; exact ⟨_, e⟩
  | ins C dx fs => obtain ⟨_, _, _, e, _⟩ := x; exact ⟨_, e⟩
  | own y => obtain ⟨_, e⟩ := x; exact ⟨_, e⟩
  | xd fs => obtain ⟨_, ⟨_, _, _, e, _⟩, _⟩ := x; exact ⟨_, e⟩
  | rng lo hi => obtain ⟨_, _, _, e⟩ := x; exact ⟨_, e⟩
  | frz ob u => obtain ⟨e, _⟩ := x; exact ⟨_, e⟩
  | tbl ps => exact ⟨_, show h.get? a = some _ from x⟩
  | met f y => exact ⟨_, show h.get? a = some _ from x⟩
  | ext φ => obtain ⟨_, ⟨_, e⟩, _⟩ := x; exact ⟨_, e⟩
theorem HOk.none_of {P : Program} {w : World} {H : Hp} {h : Heap} {a : Addr} (x : HOk P w H h) (e : h.get? a = none) : H a = none := by
  cases q : H a with
  | none => rfl
  | some u =>
    obtain ⟨o, z⟩ := (x a u q).there
    rw [e] at z; cases z

section
variable {X : Cx} {pins : List (Addr × Obj)} {σ : St} {H H' : Hp} {s : Shared} {h' : Heap}
/-- the step of Lay, for records that were not there at the entry -/
theorem Inv.stepX {ch : List Addr} {t' : Nat} (I : Inv X pins σ H s)
    (hch : ∀ b ∈ ch, X.s_0.heap.get? b = none ∧ b ≠ X.env.locals ∧ (∀ x c, X.env.cells.lookup x = some c → c ≠ b) ∧ (∀ p ∈ X.pn ++ pins, p.1 ≠ b) ∧ H b = none)
    (keep : ∀ b o, b ∉ frs X.stack → b ∉ ch → s.heap.get? b = some o → h'.get? b = some o)
    (slot : ∀ b o, b ∈ frs X.stack → s.heap.get? b = some o → ∃ sl, h'.get? b = some { o with slots := sl }) :
    Inv X pins σ H { s with heap := h', toks := t' } := by
  have neL : ∀ b o, X.s_0.heap.get? b = some o → b ≠ X.env.locals := fun b o e => Nat.ne_of_lt (Nat.lt_of_lt_of_le (Heap.lt_size e) I.ok.above)
  have neC : ∀ b o, X.s_0.heap.get? b = some o → b ∉ ch := fun b o e hb => by
    have := (hch b hb).1
    rw [e] at this; cases this
  have any : ∀ b o, b ∉ ch → s.heap.get? b = some o → ∃ sl, h'.get? b = some { o with slots := sl } := fun b o hc e => by
    by_cases hb : b ∈ frs X.stack
    · exact slot b o hb e
    · exact ⟨o.slots, keep b o hb hc e⟩
  have inS : ∀ b, b ≠ X.env.locals → b ∉ X.fs → b ∉ frs X.stack := fun b h1 h2 z => (List.mem_cons.mp (I.stkSub b z)).elim h1 h2
  have cellK : ∀ x c, X.env.cells.lookup x = some c → ∀ v, s.heap.IsCell c v → h'.IsCell c v := fun x c e v ⟨o, ho, hd⟩ => by
    obtain ⟨sl, q⟩ := any c o (fun z => (hch c z).2.2.1 x c e rfl) ho
    exact ⟨_, q, hd⟩
  refine ⟨I.ok, I.os, I.bare, ⟨fun b o e n hb hx => ?_, fun b o e n hb hx => ?_, I.base.free, fun b o e hx => ?_, I.base.tups, I.base.frzs, I.base.tbls⟩, ?_, fun x c e => ?_, I.free, I.freeC, fun p hp => ?_, fun b u e => ?_, I.len⟩
  · exact keep b o (inS b (neL b o e) hb) (neC b o e) (I.base.keep b o e n hb hx)
  · obtain ⟨sl, e1⟩ := I.base.slot b o e n hb hx
    obtain ⟨sl', e2⟩ := any b _ (neC b o e) e1
    exact ⟨sl', e2⟩
  · obtain ⟨o', e1⟩ := I.base.there b o e hx
    obtain ⟨sl, e2⟩ := any b _ (neC b o e) e1
    exact ⟨_, e2⟩
  · obtain ⟨m, ⟨o, es, ep, ho, r⟩, hl⟩ := I.loc
    obtain ⟨sl, q⟩ := any X.env.locals o (fun z => (hch _ z).2.1 rfl) ho
    refine ⟨m, ⟨_, es, ep, q, r⟩, fun i x v e1 e2 e3 => ?_⟩
    obtain ⟨u, r, l⟩ := hl i x v e1 e2 e3
    refine ⟨u, r, ?_⟩
    rcases l with l | ⟨k, c, e, z⟩
    · exact .inl l
    · exact .inr ⟨k, c, e, cellK x c e _ z⟩
  · obtain ⟨v, z⟩ := I.cell x c e
    exact ⟨v, cellK x c e v z⟩
  · obtain ⟨e, n, ne, nf, d⟩ := I.pin p hp
    exact ⟨keep p.1 p.2 (inS p.1 ne nf) (fun z => (hch p.1 z).2.2.2.1 p hp rfl) e, n, ne, nf, d⟩
  · have nit : ∀ b u, H b = some u → b ∉ ch ∧ b ∉ frs X.stack := fun b u e => ⟨(fun z => by have := (hch b z).2.2.2.2; rw [e] at this; cases this), (fun z => by have := I.stkFree b z; rw [e] at this; cases this)⟩
    refine (I.hok b u e).stay (fun c v hc q => ?_) (fun _ q => q) fun _ _ q => q
    rcases hc with z | z
    · rw [z] at q ⊢; exact keep b v (nit b u e).2 (nit b u e).1 q
    · exact keep c v (nit c _ z).2 (nit c _ z).1 q

/-- a new record is apart from all that the context knows -/
theorem Inv.apart {x : Addr} (I : Inv X pins σ H s) (hex : X.ex = []) (hx : s.heap.get? x = none) :
    X.s_0.heap.get? x = none ∧ x ≠ X.env.locals ∧ (∀ y c, X.env.cells.lookup y = some c → c ≠ x) ∧ (∀ p ∈ X.pn ++ pins, p.1 ≠ x) ∧ x ∉ frs X.stack := by
  refine ⟨?_, fun z => ?_, fun y c e z => ?_, fun p hp z => ?_, fun z => ?_⟩
  · cases q : X.s_0.heap.get? x with
    | none => rfl
    | some o =>
      obtain ⟨o', e⟩ := I.base.there x o q (by rw [hex]; simp)
      rw [hx] at e; cases e
  · obtain ⟨m, ⟨o, es, ep, ho, r⟩, hl⟩ := I.loc
    rw [← z, hx] at ho; cases ho
  · obtain ⟨v, o, ho, hd⟩ := I.cell y c e
    rw [z, hx] at ho; cases ho
  · have := (I.pin p hp).1
    rw [z, hx] at this; cases this
  · obtain ⟨_, o, ho, _⟩ := I.stack.mem z
    rw [hx] at ho; cases ho
end

/-- what was raised in a frame (no traceback yet), or came from a callee, may leave X with E -/
structure XOk (X : Cx) (E : XK) : Prop where
  raised : ∀ (pins : List (Addr × Obj)) (σ : St) (H : Hp) (s : Shared) (h' : Heap) (x C : Addr), Inv X pins σ H s → Heap.MadeExcOf s.heap h' x (.ref C) [] → E (.ref C) (some x) H → X.xe (.ref x) { s with heap := h' }
  pass : Passes (CX1 X.prog X.w) X E

section
variable {CX : CXT} {P : Program} {w : World} {K : PySem.W.Frag} {mg : Str → Option Value} {base : Heap} {N : List Str} {qual : Str} {scope : Scope} {f : Addr} {cd : Value} {A : Around} {outer : List Env} {s0 : Shared} {H0 : Hp} {E : XK}
end

/-! ### raise C() of an own class without an __init__ -/
theorem exc_of_in {K : PySem.W.Frag} {h : Heap} {C : Addr} {bmB : List Value} {newId : String} (X : K.In h) (q : PySem.W.excIn K C bmB newId = true) :
    ∃ bm N nm qn bs hdct sn sub ab col dd k0 k1 k2 k3 k5 mN, h.get? C = some (excClassObj nm qn C N bs bm hdct sn sub ab col dd k0 k1 k2 k3 k5 newId) ∧ h.Ns N mN ∧ mN "__init__" = none ∧ OwnTail h bmB bm := by
  unfold PySem.W.excIn at q
  split at q
  · rename_i dd cd sl ho
    split at q
    · rename_i C' bm k0 k1 k2 k3 n k5 hm hs
      simp only [Bool.and_eq_true, beq_iff_eq, Bool.not_eq_true'] at q
      obtain ⟨⟨⟨⟨⟨rfl, rfl⟩, hdel⟩, ht⟩, hok⟩, hni⟩ := q
      obtain ⟨nm, bs, mro, ns, qn, hd, sn, sub, ab, col, del⟩ := cd
      dsimp only at hm hdel hok hni
      subst hm hdel
      have hsl : sl = #[k0, k1, k2, k3, some (.builtin n), k5] := by
        obtain ⟨l⟩ := sl
        simp only at hs
        rw [hs]
      subst hsl
      exact ⟨bm, ns, nm, qn, bs, hd, sn, sub, ab, col, dd, k0, k1, k2, k3, k5, _, X _ _ ho, .of_isNs (PySem.W.isNs_of_in X hok), PySem.W.nsMap_none_of_in X hok hni, PySem.W.tail_of_in X ht⟩
    · cases q
  · cases q
/-- the class at C, by its name x -/
structure Own (K : PySem.W.Frag) (mg : Str → Option Value) (x : Str) (C : Addr) : Prop where
  nm : mg x = some (.ref C)
  ex : ∃ newId initId bmB, ExcBaseFacts "ValueError" newId initId bmB ∧ PySem.W.excIn K C bmB newId = true
def tRaise (C : Addr) (E : XK) : TS := fun _ _ H => ∀ x, H x = none → E (.ref C) (some x) H
/-- a def that does not raise, called where one may -/
theorem FnOk.calm {P : Program} {w : World} {K : PySem.W.Frag} {mg : Str → Option Value} {base : Heap} {CX : CXT} {k : Nat} {f : Addr} {fd : FuncData} {ps : List Str} {sp : Sp} (F : FnOk P w K mg base CX0 k f fd ps sp) : FnOk P w K mg base CX k f fd ps sp :=
  ⟨F.len, fun A outer s H args us vs Q E hr he hb hv hs => codeAny_mono (F.run A outer s H args us vs Q E hr he hb hv hs) fun r s' h => by
    cases r with
    | error e => exact False.elim (show False from h)
    | ok fl => cases fl <;> exact h⟩
/-! ### try .. except C as n -/
/-- apart from all that the context knows -/
structure Ap (X : Cx) (pins : List (Addr × Obj)) (H : Hp) (x : Addr) : Prop where
  s0 : X.s_0.heap.get? x = none
  loc : x ≠ X.env.locals
  cel : ∀ y c, X.env.cells.lookup y = some c → c ≠ x
  pin : ∀ p ∈ X.pn ++ pins, p.1 ≠ x
  fr : x ∉ frs X.stack
  free : H x = none
def TrF (h : Heap) (x T C : Addr) (a0 fl : Value) : Prop := ∃ oe vs oT ts, h.get? x = some oe ∧ (oe.cls = .ref C ∧ vs[0]? = some a0) ∧ oe.data = .fields vs ∧ vs[1]? = some (.ref T) ∧ T ≠ x ∧ h.get? T = some oT ∧ oT.data = .fields ts ∧ ts[3]? = some fl
/-- an exception in hand -/
def isE (x C : Addr) : HO := .ext fun h => ∃ o, h.get? x = some o ∧ o.cls = .ref C
/-- the name of a clause goes -/
theorem del_ok {X : Cx} {M : Model} {A : Around} {E : Value → Shared → Prop} {pins : List (Addr × Obj)} {σ : St} {H : Hp} {s : Shared} {i : Nat} {x : Str} {pos : Pos} {Q : Unit → Shared → Prop} (I : Inv X pins σ H s) (hN : X.N.Nodup) (hi : X.N[i]? = some x) (hk : X.env.scope.names.lookup x = some .local)
    (h : ∀ s', Inv X pins (σ.set i none) H s' → Q () s') : wpAny M A (do bindName X.env x .none; unbindBehindTheSuite X.env x pos) Q E s := by
  obtain ⟨m, hn, hl⟩ := id I.loc
  have hcls : (X.env.scope.kind == .class || (X.env.scope.kind == .module && X.env.locals != X.env.globals)) = false := by rw [I.ok.kind]; rfl
  have hiσ : i < σ.length := by rw [I.len]; exact (List.getElem?_eq_some_iff.mp hi).1
  refine wpAny_nameGoes_keeps hk hn hcls fun h' v hn' hs => ?_
  obtain ⟨oL, _, _, hoL, _⟩ := id hn
  refine h _ ⟨I.ok, I.os, I.bare, ⟨fun b o e n hb hx => ?_, fun b o e n hb hx => ?_, I.base.free, fun b o e hx => ?_, I.base.tups, I.base.frzs, I.base.tbls⟩, ⟨_, hn', fun j y v' e1 e2 e3 => ?_⟩, fun y c e => ?_, I.free, I.freeC, fun p hp => ?_, fun b ob e => ?_, by simpa using I.len⟩
  · exact (hs.2 b (Nat.ne_of_lt (Nat.lt_of_lt_of_le (Heap.lt_size e) I.ok.above))).trans (I.base.keep b o e n hb hx)
  · obtain ⟨sl, e1⟩ := I.base.slot b o e n hb hx
    exact ⟨sl, (hs.2 b (Nat.ne_of_lt (Nat.lt_of_lt_of_le (Heap.lt_size e) I.ok.above))).trans e1⟩
  · obtain ⟨o', e1⟩ := I.base.there b o e hx
    exact ⟨o', (hs.2 b (Nat.ne_of_lt (Nat.lt_of_lt_of_le (Heap.lt_size e) I.ok.above))).trans e1⟩
  · by_cases hj : j = i
    · subst hj
      rw [List.getElem?_set_self hiσ] at e2
      cases e2
    · rw [List.getElem?_set_ne (Ne.symm hj)] at e2
      obtain ⟨u', r', q⟩ := hl j y v' e1 e2 e3
      refine ⟨u', r', ?_⟩
      rcases q with ⟨k, e⟩ | ⟨k, c, e, z⟩
      · refine .inl ⟨k, ?_⟩
        have : y ≠ x := fun e => hj (nodup_ix hN e1 (e ▸ hi))
        simp [this, e]
      · exact .inr ⟨k, c, e, z.sameBut hs (I.cne y c e)⟩
  · obtain ⟨w', z⟩ := I.cell y c e
    exact ⟨w', z.sameBut hs (I.cne y c e)⟩
  · obtain ⟨e, n, ne, nf, d⟩ := I.pin p hp
    exact ⟨(hs.2 p.1 ne).trans e, n, ne, nf, d⟩
  · refine (I.hok b ob e).stay (fun c w' hc q => (hs.2 c ?_).trans q) (fun _ q => q) fun _ _ q => q
    rintro rfl
    rcases hc with rfl | hc
    · rw [I.free] at e; cases e
    · rw [I.free] at hc; cases hc

/-- within an except suite -/
abbrev Cx.mk1 (X : Cx) (x : Addr) : Cx := { X with A := X.A.mark (some (.ref x)), calm := false, xe := fun _ _ => False }
theorem Inv.mk1 {X : Cx} {pins : List (Addr × Obj)} {σ : St} {H : Hp} {s : Shared} (I : Inv X pins σ H s) (x : Addr) : Inv (X.mk1 x) pins σ H s :=
  ⟨⟨I.ok.mod, I.ok.kind, I.ok.glob, I.ok.blt, I.ok.above, I.ok.inj, I.ok.has, I.ok.cab, (fun z => by cases z), I.ok.frames, I.ok.stk, I.ok.exf, I.ok.bs, I.ok.bsz, I.ok.noex, I.ok.exfs, I.ok.funs, I.ok.frf⟩, I.os, I.bare, I.base, I.loc, I.cell, I.free, I.freeC, I.pin, I.hok, I.len⟩
theorem Inv.unmk1 {X : Cx} {pins : List (Addr × Obj)} {σ : St} {H : Hp} {s : Shared} {x : Addr} (I : Inv (X.mk1 x) pins σ H s) (ok : X.Ok) : Inv X pins σ H s :=
  ⟨ok, I.os, I.bare, I.base, I.loc, I.cell, I.free, I.freeC, I.pin, I.hok, I.len⟩
/-- within a try's body: pn the pins that stood ahead of it -/
abbrev Cx.tr1 (X : Cx) (W : Value → Shared → Prop) (pn : List (Addr × Obj)) : Cx := { X with xe := W, pn := pn }
theorem Inv.tr1 {X : Cx} {pins : List (Addr × Obj)} {σ : St} {H : Hp} {s : Shared} (I : Inv X pins σ H s) (W : Value → Shared → Prop) : Inv (X.tr1 W (X.pn ++ pins)) [] σ H s :=
  ⟨⟨I.ok.mod, I.ok.kind, I.ok.glob, I.ok.blt, I.ok.above, I.ok.inj, I.ok.has, I.ok.cab, I.ok.hd, I.ok.frames, I.ok.stk, I.ok.exf, I.ok.bs, I.ok.bsz, I.ok.noex, I.ok.exfs, I.ok.funs, I.ok.frf⟩, I.os, I.bare, I.base, I.loc, I.cell, I.free, I.freeC, fun p hp => I.pin p (by simpa using hp), I.hok, I.len⟩
theorem Inv.untr1 {X : Cx} {pins pins' : List (Addr × Obj)} {σ : St} {H : Hp} {s : Shared} {W : Value → Shared → Prop} (I : Inv (X.tr1 W (X.pn ++ pins)) pins' σ H s) : Inv X pins σ H s :=
  ⟨⟨I.ok.mod, I.ok.kind, I.ok.glob, I.ok.blt, I.ok.above, I.ok.inj, I.ok.has, I.ok.cab, I.ok.hd, I.ok.frames, I.ok.stk, I.ok.exf, I.ok.bs, I.ok.bsz, I.ok.noex, I.ok.exfs, I.ok.funs, I.ok.frf⟩, I.os, I.bare, I.base, I.loc, I.cell, I.free, I.freeC, fun p hp => I.pin p (List.mem_append_left _ hp), I.hok, I.len⟩
theorem Inv.blank {X : Cx} {pins : List (Addr × Obj)} {σ : St} {H : Hp} {s : Shared} (I : Inv X pins σ H s) : Inv X pins (List.replicate X.N.length none) H s :=
  I.weak (by rw [List.length_replicate, I.len]) fun i v e => by
    rw [List.getElem?_replicate] at e
    split at e <;> cases e
/-- try: body; except C as n: suite; .. : the first clause is met (all else that the body may raise is not asked). E: what the body may raise -/
def tTryAs (X : Cx) (C : Addr) (i : Nat) (tb : XK → TS) (th : TS) : TS := fun D σ H => ∃ E : XK, tb E D σ H ∧ ∀ (c : Value) (x : Addr) (H' : Hp), E c (some x) H' → H' x = none →
  c = .ref C ∧ th { D with nx := fun σ' H2 => D.nx (σ'.set i none) H2, bk := fun σ' H2 => D.bk (σ'.set i none) H2, ct := fun σ' H2 => D.ct (σ'.set i none) H2 } ((List.replicate X.N.length none).set i (some (.ref x))) (upd H' x (isE x C))
end L2

end
section
set_option Elab.async false
set_option linter.all false
set_option maxRecDepth 100000
namespace PySem.W
open PySem PySem.Spec PySem.Calls PyProof.Rows Builtin Builtin.ObjectAttr Builtin.Getset_descriptor
section
variable {prog : Program} {w : World} {A : Around} {E : Value → Shared → Prop} {s : Shared} {K : Frag} {x D : Addr}
theorem exc_class_get {R : Result → Shared → Prop} {tp : Value} (X : K.In s.heap) (L0 : ∀ M, Looks M s.heap (typeOf (.ref x)) (.ref D)) (hm : mroIn K D (.type "object") = some true)
    (h : R (.ok (.ret (.ref D))) s) : codeAny (model prog w) A (.call (.builtin "getset_descriptor.__get__") ⟨[.builtin "object.__class__", .ref x, tp], []⟩) R s := by
  obtain ⟨hh, g, dr, t, os⟩ := s
  have L0 := L0 (model prog w)
  have L1 := looks_mroIn (M := model prog w) X hm
  refine codeAny_call_builtin KF.slot_gs.plain KF.entry_gs (KF.slot_gs.check _ _ _ _ _ _ _ _ KF.type_class (KF.args_gs _ _ _) ?_)
  unfold Builtin.«getset_descriptor.__get__» descrGet
  rw [dga_obj]
  refine wpAny_bind (wpAny_pure ?_)
  unfold descrGetter descrCheckInstance descrNameAndClass isInstance
  simp only [KF.owner_class]
  repeat lk
  refine ⟨Code.quiet_builtin _ (by decide +kernel), codeAny_builtin KF.entry_class ?_⟩
  unfold Builtin.«object.__class__» shownTypeOf
  repeat lk
  exact h
theorem exc_check {M : Model} {nameV : Value} {Q : Unit → Shared → Prop} (X : K.In s.heap) (L0 : ∀ M, Looks M s.heap (typeOf (.ref x)) (.ref D)) (hm : mroIn K D (.type "BaseException") = some true) (hq : Q () s) :
    wpAny M A (checkBuiltinCall "BaseException.__getattribute__" ⟨[.ref x, nameV], []⟩) Q E s := by
  have hk : builtinKind "BaseException.__getattribute__" = some .slot := by decide +kernel
  have hsplit : splitId "BaseException.__getattribute__" = some ("BaseException", "__getattribute__") := by decide +kernel
  have ha := F.args_bexc_ga (.ref x) nameV
  have L0 := L0 M
  have L1 := looks_mroIn (M := M) X hm
  obtain ⟨hh, g, dr, t, os⟩ := s
  simp only [checkBuiltinCall, hk, hsplit]
  refine wpAny_bind ?_
  unfold isInstance
  repeat (first | lk | wp_step)
  exact hq
theorem exc_entry {tk : Tok} {Q : Fin → Shared → Prop} (X : K.In s.heap) (L0 : ∀ M, Looks M s.heap (typeOf (.ref x)) (.ref D)) (hcl : findIn K (.ref D) "__class__" = some (some (.builtin "object.__class__"))) (hm : mroIn K D (.type "object") = some true)
    (hq : Q (.done (.ret (.ref D))) s) : wpAny (model prog w) A (Builtin.«object.__getattribute__» ⟨[.ref x, .str "__class__" tk], []⟩) Q E s := by
  have f5 := F.typeOf_object_class
  have f6 := F.slot_gs_get.lookup
  have f7 := F.slot_gs_set.lookup
  have L1 := L0 (model prog w)
  have L2 := looks_findIn (M := model prog w) X hcl
  obtain ⟨hh, g, dr, t, os⟩ := s
  repeat (any_goals (first | assumption | (refine wpAny_bind (L1.at ?_)) | (refine wpAny_bind (L2.at ?_)) | wp_step))
  refine exc_class_get (s := ⟨hh, g, dr, t, os⟩) X L0 hm ?_
  exact wpAny_pure hq
theorem exc_class {Q : Option Value → Shared → Prop} (X : K.In s.heap) (L0 : ∀ M, Looks M s.heap (typeOf (.ref x)) (.ref D)) (hga : findIn K (.ref D) "__getattribute__" = some (some (.builtin "BaseException.__getattribute__"))) (hgt : findIn K (.ref D) "__getattr__" = some none)
    (hcl : findIn K (.ref D) "__class__" = some (some (.builtin "object.__class__"))) (hm : mroIn K D (.type "object") = some true) (hb : mroIn K D (.type "BaseException") = some true)
    (h : Q (some (.ref D)) { s with toks := s.toks + 1 }) : wpAny (model prog w) A (getAttr? (.ref x) "__class__") Q E s := by
  have FB := F.excAttr_ValueError
  have f3 := FB.ga.bind (.ref x)
  have hx2 : (Value.builtin "BaseException.__getattribute__" == Value.builtin "object.__getattribute__") = false := by decide +kernel
  have hx1 : (onTheHeap (Value.ref D) && Value.builtin "BaseException.__getattribute__" == Value.builtin "object.__getattribute__") = false := by rw [hx2]; rfl
  have L1 := L0 (model prog w)
  have L2 := looks_findIn (M := model prog w) X hga
  have L3 := looks_findIn (M := model prog w) X hgt
  obtain ⟨hh, g, dr, t, os⟩ := s
  unfold getAttr? getAttrBy? getAttrBy
  repeat (any_goals (first | assumption | (refine wpAny_bind (L1.at ?_)) | (refine wpAny_bind (L2.at ?_)) | (refine wpAny_bind (L3.at ?_)) | wp_step))
  refine codeAny_call_builtin FB.ga.plain F.entry_bexc_ga (exc_check (s := ⟨hh, g, dr, t + 1, os⟩) X L0 hb (exc_entry (s := ⟨hh, g, dr, t + 1, os⟩) X L0 hcl hm ?_))
  show wpAny _ _ (handedOut (Value.ref D)) _ _ _
  rw [handedOut_of rfl]
  exact wpAny_pure (wpAny_pure h)
/-- what is an exception of the class at D -/
structure ExcCls (K : Frag) (D : Addr) : Prop where
  cl : ∃ cd, clsIn K D = some cd
  hga : findIn K (.ref D) "__getattribute__" = some (some (.builtin "BaseException.__getattribute__"))
  hgt : findIn K (.ref D) "__getattr__" = some none
  hcl : findIn K (.ref D) "__class__" = some (some (.builtin "object.__class__"))
  hm : mroIn K D (.type "object") = some true
  hb : mroIn K D (.type "BaseException") = some true
theorem kitx_exc (C : ExcCls K D) : KitX K (.ref x) (.ref D) (fun h => ∃ o, h.get? x = some o ∧ o.cls = .ref D) where
  ty := fun M h _ ⟨o, h1, h2⟩ => h2 ▸ (Looks.ld h1).andThen .now
  it := fun _ _ X _ => by
    obtain ⟨cdD, hcD⟩ := C.cl
    unfold clsIn at hcD
    split at hcD
    · rename_i c' d' cd' sl' ho
      intro A' Q' E' s' k q
      unfold isType loadHead
      exact wpAny_bind (wpAny_loadPart (k _ _ (X _ _ ho)) (wpAny_pure q))
    · cases hcD
  ne := fun h tp dd its n sl X htp => by
    obtain ⟨cdD, hcD⟩ := C.cl
    refine Bool.eq_false_iff.mpr fun q => ?_
    have e : D = tp := Value.ref.inj (beq_iff_eq.mp q)
    subst e
    unfold clsIn at hcD
    split at hcD
    · rename_i c' d' cd' sl' ho
      have z := (X _ _ ho).symm.trans htp
      cases z
    · cases hcD
  ca := fun X ⟨o, h1, h2⟩ k => exc_class X (fun M => h2 ▸ (Looks.ld h1).andThen .now) C.hga C.hgt C.hcl C.hm C.hb k
end
end PySem.W
namespace L2
open PySem PySem.Spec PyProof.Rows
/-! ### isinstance -/
/-- the type of a value that H knows -/
inductive TyV (K : PySem.W.Frag) (H : Hp) : V → Value → Prop
  | int (i : Int) : TyV K H (.int i) (.type "int")
  | bl (b : Bool) : TyV K H (.bl b) (.type "bool")
  | non : TyV K H .non (.type "NoneType")
  | str (x : Str) : TyV K H (.str x) (.type "str")
  | lst {a : Addr} {xs : List V} : SqL K H a xs → TyV K H (.ref a) (.type "list")
  | tup {a : Addr} {xs : List V} : SqT K H a xs → TyV K H (.ref a) (.type "tuple")
  | dict {a : Addr} {kvs : List (Key × V)} : H a = some (.dK kvs) → TyV K H (.ref a) (.type "dict")
  | exc {x C : Addr} : H x = some (isE x C) → PySem.W.ExcCls K C → TyV K H (.ref x) (.ref C)
theorem TyV.mono {K : PySem.W.Frag} {H H' : Hp} {x : V} {t : Value} (s : Same H H') (h : TyV K H x t) : TyV K H' x t := by
  cases h with
  | int i => exact .int i
  | bl b => exact .bl b
  | non => exact .non
  | str y => exact .str y
  | lst h => exact .lst (s.seq h)
  | tup h => exact .tup (s.sqT h)
  | dict h => exact .dict (s _ _ h)
  | exc h c => exact .exc (s _ _ h) c
/-- isinstance(x, C), C a class that is told -/
def rIsi (K : PySem.W.Frag) : List V → Hp → VK → Prop := fun vs H Q => ∃ x c t u b, vs = [x, c] ∧ TyV K H x t ∧ RelV c u ∧ (∀ z, RelV c z → z = u) ∧ PySem.W.kitOne K t u = some b ∧ Q (.bl b) H
theorem call_isi {X : Cx} : CallR X (.builtin "isinstance") (rIsi X.K) := by
  intro pins s σ H vs us Q I r h
  obtain ⟨x, c, t, u, b, rfl, ht, rc, hu, hk, q⟩ := h
  cases r with
  | cons r1 r2 =>
    cases r2 with
    | cons r2 r3 =>
      cases r3
      obtain rfl := hu _ r2
      have fin : ∀ tk, EP X pins σ Q (.bool b) { s with toks := tk } := fun tk => ⟨.bl b, H, I.tok tk, rfl, q⟩
      cases ht with
      | int i => obtain ⟨tk, rfl⟩ := r1; exact PySem.W.kia_one PySem.W.kitx_int I.kIn trivial hk (by intro e; cases e) fin
      | bl y => cases r1; exact PySem.W.kia_one PySem.W.kitx_bool I.kIn trivial hk (by intro e; cases e) fin
      | non => cases r1; exact PySem.W.kia_one PySem.W.kitx_none I.kIn trivial hk (by intro e; cases e) fin
      | str y => obtain ⟨tk, rfl⟩ := r1; exact PySem.W.kia_one PySem.W.kitx_str I.kIn trivial hk (by intro e; cases e) fin
      | lst h1 => cases r1; obtain ⟨its, _, ⟨o, n, e, hc, _⟩, _⟩ := I.list h1; exact PySem.W.kia_one PySem.W.kitx_list I.kIn ⟨o, e, hc⟩ hk (by intro e; cases e) fin
      | tup h1 => cases r1; obtain ⟨its, _, ⟨o, e, hc, _⟩, _⟩ := I.tuple h1; exact PySem.W.kia_one PySem.W.kitx_tuple I.kIn ⟨o, e, hc⟩ hk (by intro e; cases e) fin
      | dict h1 =>
        cases r1
        obtain ⟨_, _, _, _, o, _, _, e, hc, _⟩ := I.hok _ _ h1
        exact PySem.W.kia_one PySem.W.kitx_dict I.kIn ⟨o, e, hc.1⟩ hk (by intro e; cases e) fin
      | exc h1 hC =>
        cases r1
        obtain ⟨h2, _⟩ := I.hok _ _ h1
        exact PySem.W.kia_one (PySem.W.kitx_exc hC) I.kIn h2 hk (by intro e; cases e) fin
/-- isinstance(x, (C, D, ..)), the tuple just made -/
def rIsiT (K : PySem.W.Frag) : List V → Hp → VK → Prop := fun vs H Q => ∃ x p cs us t b, vs = [x, .ref p] ∧ H p = some (.tup cs) ∧ TyV K H x t ∧ (∀ zs, Vals cs zs → zs = us) ∧ PySem.W.kitAny K t us = some b ∧ Q (.bl b) H
end L2

end
section
set_option Elab.async false
set_option linter.all false
set_option maxRecDepth 100000
namespace L2
open PySem PySem.Spec PyProof.Rows PySem.Calls
section
variable {X : Cx}
/-- repr(True), repr(False) -/
def rReprB : List V → Hp → VK → Prop := fun vs H Q => ∃ b : Bool, vs = [.bl b] ∧ Q (.str (if b = true then "True" else "False")) H
/-- t + u, of any length -/
def rCatA (K : PySem.W.Frag) : R2 := fun x y H Q => ∃ a b xs ys, x = .ref a ∧ y = .ref b ∧ SqT K H a xs ∧ SqT K H b ys ∧ xs.length + ys.length ≤ sizeLine ∧ ∀ (t : Addr) (H' : Hp), Same H H' → SqT K H' t (xs ++ ys) → Q (.ref t) H'
end
end L2

end
section
set_option Elab.async false
set_option linter.all false
set_option maxRecDepth 100000
namespace L2
open PySem PySem.Spec PyProof.Rows SetM
section
variable {X : Cx}
def rSetI0 : List V → Hp → VK → Prop := fun vs H Q => vs = [] ∧ ∀ p, H p = none → Q (.ref p) (upd H p (.set (fun _ => false) 0))
def rInI : R2 := fun x y H Q => ∃ a i S n, x = .int i ∧ y = .ref a ∧ H a = some (.set S n) ∧ Q (.bl (S i)) H
def rAddI : V → List V → Hp → VK → Prop := fun x vs H Q => ∃ a i S n, x = .ref a ∧ vs = [.int i] ∧ H a = some (.set S n) ∧ n + 1 < scanBound ∧ Q .non (upd H a (.set (fun k => S k || decide (k = i)) (if S i = true then n else n + 1)))
end
end L2

end
section
set_option Elab.async false
set_option linter.all false
set_option maxRecDepth 100000
namespace L2
open PySem PySem.Spec PyProof.Rows
/-- a, b = a list or a tuple -/
def gSeq (K : PySem.W.Frag) (n : Nat) (t : TGs) : TG := fun v σ H Q => ∃ a xs, v = .ref a ∧ (SqL K H a xs ∨ SqT K H a xs) ∧ xs.length = n ∧ t xs σ H Q
section
variable {X : Cx}
end
end L2

end
section
set_option Elab.async false
set_option linter.all false
set_option maxRecDepth 100000
namespace L2
open PySem PySem.Spec PyProof.Rows SetM
/-! ### for x in a list or a tuple -/
def iSeq (K : PySem.W.Frag) (tl : TE) : TI := fun σ H R => tl σ H fun x H1 => ∃ a, x = .ref a ∧ (((∃ xs, SqL K H1 a xs) ∧ R (Itl K a) H1) ∨ ((∃ xs, SqT K H1 a xs) ∧ R (Itt K a) H1))
/-! ### x in s, be it there or not -/
def rInS2 (P : Program) (w : World) : R2 := fun x y H Q => ∃ a c i j ms, x = .ref c ∧ y = .ref a ∧ H c = some (.tup [.int i, .int j]) ∧ H a = some (SetO P w a ms) ∧ MsOk H ms ∧ Q (.bl (decide ((i, j) ∈ ms.map (·.2)))) H
theorem op_inS2 {X : Cx} (hu : X.A.units + 1 < cLine) : OpR X (compareOp .In) (rInS2 X.prog X.w) := by
  intro pins s σ H x y v u Q I rx ry h
  obtain ⟨a, c, i, j, ms, rfl, rfl, hc, ha, hm, q⟩ := h
  cases rx
  cases ry
  by_cases d : (i, j) ∈ ms.map (·.2)
  · rw [decide_eq_true d] at q
    have hel : ∀ e ∈ ms.map (entM X.prog X.w), ∃ ks', El X.prog X.w s.heap e ks' := by
      intro e he
      obtain ⟨m, hmm, rfl⟩ := List.mem_map.mp he
      exact ⟨[m.2.1, m.2.2], m.1, rfl, I.keyT (hm m hmm)⟩
    obtain ⟨m, hmm, em⟩ := List.mem_map.mp d
    refine in_there hu (I.setAt ha) (I.keyT hc) hel ⟨entM X.prog X.w m, List.mem_map.mpr ⟨m, hmm, rfl⟩, m.1, ?_, ?_⟩ ⟨.bl true, H, I.tok _, rfl, q⟩
    · unfold entM
      rw [em]
    · have := I.keyT (hm m hmm)
      rw [em] at this
      exact this
  · rw [decide_eq_false d] at q
    exact in_absent hu (I.setAt ha) (I.keyT hc) (I.els hm d) ⟨.bl false, H, I.tok _, rfl, q⟩
end L2

end
section
set_option Elab.async false
set_option linter.all false
set_option maxRecDepth 100000
namespace L2
open PySem PySem.Spec PyProof.Rows
/-! ### try: body; except C: suite (no name) -/
def tTry0 (X : Cx) (C : Addr) (tb : XK → TS) (th : TS) : TS := fun D σ H => ∃ E : XK, tb E D σ H ∧ ∀ (c : Value) (x : Addr) (H' : Hp), E c (some x) H' → H' x = none →
  c = .ref C ∧ th D (List.replicate X.N.length none) H'
/-! ### repr of any data without dicts -/
section
variable {X : Cx}
def rReprA (K : PySem.W.Frag) : List V → Hp → VK → Prop := fun vs H Q => rRepr K vs H Q ∨ (vs = [.non] ∧ Q (.str "None") H) ∨ ∃ i : Int, vs = [.int i] ∧ i.natAbs.log2 < 1920 ∧ Q (.str (PyData.int i).shown) H
/-! ### t * n -/
def rRepT (K : PySem.W.Frag) : R2 := fun x y H Q => ∃ a k xs, x = .ref a ∧ y = .int k ∧ SqT K H a xs ∧ xs ≠ [] ∧ 2 ≤ k ∧ k ≤ 1000 ∧ xs.length ≤ 1000 ∧
  ∀ p, H p = none → Q (.ref p) (upd H p (.tup (List.replicate k.toNat xs).flatten))
end
end L2

end
section
set_option Elab.async false
set_option linter.all false
set_option maxRecDepth 100000
namespace L2
open PySem PySem.Spec PyProof.Rows
/-! ### a display whose judgement does not unfold -/
structure PA1 (X : Cx) (es : List PySem.Expr) (t : TA) : Prop where
  u : PA X es t
theorem pa1_nil {X : Cx} : PA1 X [] tNil := ⟨pa_nil⟩
theorem pa1_cons {X : Cx} {e : PySem.Expr} {es : List PySem.Expr} {te : TE} {t : TA} (ha : PE X e te) (hr : PA1 X es t) (hs : ∀ es, starEach (e :: es) X.env = (false, eval e X.env) :: starEach es X.env := by intro _; rfl) : PA1 X (e :: es) (tCons te t) := ⟨pa_cons ha hr.u (hs _)⟩
end L2
namespace Wb
open PySem L2
def Small (zs : List Int) : Prop := ∀ z ∈ zs, 0 ≤ z ∧ z < 1000
/-- a deck at p -/
def DkAt (H : Hp) (p : Addr) : Prop := ∃ zs : List Int, H p = some (.lst (zs.map V.int)) ∧ Small zs
theorem DkAt.same {H H' : Hp} {p : Addr} (h : DkAt H p) (s : Same H H') : DkAt H' p := let ⟨z, e, r⟩ := h; ⟨z, s _ _ e, r⟩
theorem DkAt.tup {p : Addr} {H H' : Hp} (s : SameBut p H H') (h : DkAt H p) : SameT H H' := let ⟨_, e, _⟩ := h; SameBut.tup s e
theorem isPl_int {m : Int} {x : V} (h : isPl m x = true) : ∃ i, x = .int i ∧ 0 ≤ i ∧ i < m := by
  cases x <;> first | exact absurd (show false = true from h) Bool.false_ne_true | skip
  rename_i i
  have h : (decide (0 ≤ i) && decide (i < m)) = true := h
  rw [Bool.and_eq_true] at h
  exact ⟨i, rfl, of_decide_eq_true h.1, of_decide_eq_true h.2⟩
theorem relTy (n : String) : ∀ z, RelV (.ty n) z → z = .type n := fun _ h => h
inductive Th (K : PySem.W.Frag) (H : Hp) : V → Option (List V) → Prop
  | tup {a : Addr} {xs : List V} : SqT K H a xs → (∀ x ∈ xs, ∃ m, TyV K H x (.type m)) → xs.length ≤ 1000 → Th K H (.ref a) (some xs)
  | oth {v : V} {tn : String} : TyV K H v (.type tn) → PySem.W.kitOne K (.type tn) (.type "tuple") = some false → Th K H v none
theorem Th.same {K : PySem.W.Frag} {H H' : Hp} {v : V} {o : Option (List V)} (s : Same H H') (h : Th K H v o) : Th K H' v o := by
  cases h with
  | tup h1 h2 h3 => exact .tup (s.sqT h1) (fun x hx => let ⟨m, hm⟩ := h2 x hx; ⟨m, hm.mono s⟩) h3
  | oth h1 h2 => exact .oth (h1.mono s) h2
def iotaL (n : Nat) : List Int := (List.range n).map fun (i : Nat) => (i : Int)
/-- unlike places -/
def Unl (n : Int) (o : Option (List V)) (ns : List Int) : Prop := o = some (ns.map V.int) ∧ (∀ x ∈ ns, 0 ≤ x ∧ x < n) ∧ ns.Nodup
theorem Th.len {K : PySem.W.Frag} {H : Hp} {v : V} {ns : List Int} (h : Th K H v (some (ns.map V.int))) : ∃ a, v = .ref a ∧ SqT K H a (ns.map V.int) ∧ ns.length ≤ 1000 := by
  generalize e : some (ns.map V.int) = o at h
  cases h with
  | tup h1 h2 h3 =>
    have := Option.some.inj e
    subst this
    exact ⟨_, rfl, h1, by rw [List.length_map] at h3; exact h3⟩
  | oth h1 h2 => cases e
theorem DkAt.sqTd {K : PySem.W.Frag} {p : Addr} {H H' : Hp} {a : Addr} {xs : List V} (d : DkAt H p) (s : SameBut p H H') (h : SqT K H a xs) : SqT K H' a xs := by
  obtain ⟨ys, e, _⟩ := d
  rcases h with (h | ⟨ob, h⟩) | h
  · exact .inl (.inl (s _ _ h (ne_of h e (by intro z; cases z))))
  · exact .inl (.inr ⟨ob, s _ _ h (ne_of h e (by intro z; cases z))⟩)
  · exact .inr h
theorem ty_but {K : PySem.W.Frag} {p : Addr} {H H' : Hp} {x : V} {m : String} (d : DkAt H p) (d' : DkAt H' p) (s : SameBut p H H') (h : TyV K H x (.type m)) : TyV K H' x (.type m) := by
  cases h with
  | int i => exact .int i
  | bl b => exact .bl b
  | non => exact .non
  | str y => exact .str y
  | lst h =>
    rename_i a xs
    by_cases c : a = p
    · subst c
      obtain ⟨zs, e, _⟩ := d'
      exact .lst (SqL.of e)
    · rcases h with (h | ⟨ob, h⟩) | h
      · exact .lst (.inl (.inl (s _ _ h c)))
      · exact .lst (.inl (.inr ⟨ob, s _ _ h c⟩))
      · exact .lst (.inr h)
  | tup h => exact .tup (d.sqTd s h)
  | dict h =>
    obtain ⟨zs, e, _⟩ := id d
    exact .dict (s _ _ h (ne_of h e (by intro z; cases z)))
theorem Th.but {K : PySem.W.Frag} {p : Addr} {H H' : Hp} {v : V} {o : Option (List V)} (d : DkAt H p) (d' : DkAt H' p) (s : SameBut p H H') (h : Th K H v o) : Th K H' v o := by
  cases h with
  | tup h1 h2 h3 => exact .tup (d.sqTd s h1) (fun x hx => let ⟨m, hm⟩ := h2 x hx; ⟨m, ty_but d d' s hm⟩) h3
  | oth h1 h2 => exact .oth (ty_but d d' s h1) h2
/-! ### the law's walk -/
abbrev ThAll (K : PySem.W.Frag) (H : Hp) (xs : List V) : Prop := ∀ x ∈ xs, ∃ o, Th K H x o
abbrev TyAll (K : PySem.W.Frag) (H : Hp) (xs : List V) : Prop := ∀ x ∈ xs, ∃ m, TyV K H x (.type m)
theorem TyAll.same {K : PySem.W.Frag} {H H' : Hp} {xs : List V} (s : Same H H') (h : TyAll K H xs) : TyAll K H' xs := fun x hx => let ⟨m, hm⟩ := h x hx; ⟨m, hm.mono s⟩
theorem ThAll.same {K : PySem.W.Frag} {H H' : Hp} {xs : List V} (s : Same H H') (h : ThAll K H xs) : ThAll K H' xs := fun x hx => let ⟨o, ho⟩ := h x hx; ⟨o, ho.same s⟩
theorem ThAll.but {K : PySem.W.Frag} {p : Addr} {H H' : Hp} {xs : List V} (d : DkAt H p) (d' : DkAt H' p) (s : SameBut p H H') (h : ThAll K H xs) : ThAll K H' xs := fun x hx => let ⟨o, ho⟩ := h x hx; ⟨o, ho.but d d' s⟩
theorem WebAt.same {H H' : Hp} {v : V} {n : Int} {ps : List Pr} (s : SameT H H') (h : WebAt H v n ps) : WebAt H' v n ps := by
  obtain ⟨wa, wt, ys, rfl, h1, h2, h3⟩ := h
  exact ⟨wa, wt, ys, rfl, s _ _ h1, s _ _ h2, PairsAt.mono s h3⟩
end Wb

end
section
set_option linter.all false
namespace Wb
/-! ### the closing, by itself -/
def enough (n : Nat) (ps : List Pr) (k : Int) (p : Pr) : Bool := decide ((n : Int) + k ≤ ct ps p.1.toNat + ct ps p.2.toNat)
def lput (n : Nat) (ps : List Pr) (k : Int) (rs : List Pr) : List Pr := rs.filter fun p => enough n ps k p && decide (p ∉ ps)
def ahead (n : Nat) (ps : List Pr) (k : Int) : Option Pr := (unt n ps).find? (enough n ps k)
def Shut (n : Nat) (k : Int) (ps : List Pr) : Prop := lput n ps k (rows n n) = []
/-- the web with one pair more -/
structure Ins (n : Nat) (ps : List Pr) (p : Pr) (qs : List Pr) : Prop where
  good : Good n qs
  mem : ∀ x, x ∈ qs ↔ x ∈ ps ∨ x = p
  len : qs.length = ps.length + 1
theorem Ins.eq {n : Nat} {ps qs rs : List Pr} {p : Pr} (a : Ins n ps p qs) (b : Ins n ps p rs) : qs = rs := good_eq a.good b.good fun x => by rw [a.mem, b.mem]
/-- puts, one by one -/
inductive Puts (n : Nat) (k : Int) (ps : List Pr) : List Pr → List Pr → Prop where
  | nil : Puts n k ps [] ps
  | snoc {us qs rs : List Pr} {p : Pr} (h : Puts n k ps us qs) (hp : p ∈ lput n qs k (rows n n)) (i : Ins n qs p rs) : Puts n k ps (us ++ [p]) rs
theorem Puts.good {n : Nat} {k : Int} {ps us qs : List Pr} (g : Good n ps) (h : Puts n k ps us qs) : Good n qs := by
  cases h with
  | nil => exact g
  | snoc _ _ i => exact i.good
theorem Puts.len {n : Nat} {k : Int} {ps us qs : List Pr} (h : Puts n k ps us qs) : qs.length = ps.length + us.length := by
  induction h with
  | nil => rfl
  | snoc _ _ i ih => rw [i.len, ih, List.length_append]; rfl
end Wb

end
section
set_option Elab.async false
set_option linter.all false
namespace Wb
open PySem L2
/-! ### joined by ties that do not touch the lot -/
theorem pr_lo {n : Int} {ps : List Pr} (g : Good n ps) {x y : Int} (h : pr x y ∈ ps) : 0 ≤ x ∧ x < n ∧ 0 ≤ y ∧ y < n ∧ x ≠ y := by
  have := g.lo _ h
  unfold pr mn mx at this
  by_cases c : y < x
  · have c2 : ¬ y > x := by omega
    simp only [c, c2, if_true, if_false] at this
    omega
  · by_cases c2 : y > x
    · simp only [c, c2, if_true, if_false] at this
      omega
    · simp only [c, c2, if_false] at this
      omega
inductive Jn (ps : List Pr) (lot : List Int) (x : Int) : Int → Prop
  | base : Jn ps lot x x
  | step {y z : Int} : Jn ps lot x y → pr y z ∈ ps → z ∉ lot → Jn ps lot x z
theorem Jn.trans {ps : List Pr} {lot : List Int} {x y z : Int} (h : Jn ps lot x y) (h' : Jn ps lot y z) : Jn ps lot x z := by
  induction h' with
  | base => exact h
  | step _ h2 h3 ih => exact ih.step h2 h3
theorem Jn.off {ps : List Pr} {lot : List Int} {x y : Int} (h : Jn ps lot x y) (hx : x ∉ lot) : y ∉ lot := by
  cases h with
  | base => exact hx
  | step _ _ h => exact h
theorem Jn.symm {ps : List Pr} {lot : List Int} {x y : Int} (h : Jn ps lot x y) (hx : x ∉ lot) : Jn ps lot y x := by
  induction h with
  | base => exact .base
  | step h1 h2 h3 ih => exact (Jn.base.step (by rw [pr_comm]; exact h2) (h1.off hx)).trans ih
theorem Jn.rng {n : Int} {ps : List Pr} {lot : List Int} {x y : Int} (g : Good n ps) (h : Jn ps lot x y) (hx : 0 ≤ x ∧ x < n) : 0 ≤ y ∧ y < n := by
  cases h with
  | base => exact hx
  | step _ h2 _ => have := pr_lo g h2; exact ⟨this.2.2.1, this.2.2.2.1⟩
def iotaN (n : Nat) : List Int := (List.range n).map fun (i : Nat) => (i : Int)
/-- the places joined to x, rising -/
noncomputable def clsL (n : Nat) (ps : List Pr) (lot : List Int) (x : Int) : List Int := (iotaN n).filter fun y => @decide (Jn ps lot x y) (Classical.propDecidable _)
/-- x is the least place of its piece -/
def IsRep (ps : List Pr) (lot : List Int) (x : Int) : Prop := x ∉ lot ∧ ∀ y, 0 ≤ y → y < x → y ∉ lot → ¬ Jn ps lot y x
/-- the pieces whose least places are below i -/
noncomputable def pcsTo (n : Nat) (ps : List Pr) (lot : List Int) (i : Nat) : List (List Int) := ((iotaN i).filter fun x => @decide (IsRep ps lot x) (Classical.propDecidable _)).map (clsL n ps lot)
noncomputable def pcsL (n : Nat) (ps : List Pr) (lot : List Int) : List (List Int) := pcsTo n ps lot n
end Wb

end
section
set_option Elab.async false
set_option linter.all false
set_option maxRecDepth 100000
namespace PySem.W
open PySem PySem.Spec PySem.Calls PyProof.Rows
section
variable {prog : Program} {w : World} {A : Around} {E : Value → Shared → Prop} {s : Shared}
end
end PySem.W
namespace L2
open PySem PySem.Spec PyProof.Rows
section
variable {X : Cx}
def rSortedK : List V → Hp → VK → Prop := fun vs H Q => ∃ (a : Addr) (kvs : List (Key × V)) (ns : List Int), vs = [V.ref a] ∧ H a = some (.dK kvs) ∧ kvs.map (·.1) = ns.map Sum.inl ∧ ns.length < 64 ∧
  ∀ (ns' : List Int) (p : Addr), ns'.Perm ns → ns'.Pairwise (· ≤ ·) → H p = none → Q (.ref p) (upd H p (.lst (ns'.map V.int)))
end
end L2

end
section
set_option Elab.async false
set_option linter.all false
set_option maxRecDepth 100000
namespace PySem.W
open PySem PySem.Spec PySem.Calls PyProof.Rows
section
variable {prog : Program} {w : World} {A : Around} {E : Value → Shared → Prop} {s : Shared}
end
end PySem.W
namespace L2
open PySem PySem.Spec PyProof.Rows
section
variable {X : Cx}
/-- tuple(range(n)) -/
def tTupRng (t : TA) : TE := fun σ H Q => t σ H fun vs H1 => ∃ n : Nat, vs = [.int n] ∧ n ≤ 100000 ∧ ∀ q, H1 q = none → Q (.ref q) (upd H1 q (.tup ((List.range n).map fun (i : Nat) => V.int i)))
/-! ### a truth is not a truth -/
def rIsNotB : R2 := fun x y H Q => ∃ i j, x = .bl i ∧ y = .bl j ∧ Q (.bl (!decide (i = j))) H
end
end L2

end
section
set_option Elab.async false
set_option linter.all false
set_option maxRecDepth 100000
namespace L2
open PySem PySem.Spec PyProof.Rows
mutual
theorem Dp.same {K : PySem.W.Frag} {H H' : Hp} (s : Same H H') : ∀ {v : V} {d : PyData}, Dp K H v d → Dp K H' v d
  | _, _, .non => .non
  | _, _, .bl b => .bl b
  | _, _, .int i => .int i
  | _, _, .str x => .str x
  | _, _, .lst h t => .lst (s.seq h) (DpAll.same s t)
  | _, _, .tup h t => .tup (s.sqT h) (DpAll.same s t)
theorem DpAll.same {K : PySem.W.Frag} {H H' : Hp} (s : Same H H') : ∀ {vs : List V} {ds : List PyData}, DpAll K H vs ds → DpAll K H' vs ds
  | _, _, .nil => .nil
  | _, _, .cons h t => .cons (Dp.same s h) (DpAll.same s t)
end
section
variable {X : Cx}
/-- a dict of ints -/
def dK2 (kvs : List (Int × Int)) : List (Key × V) := kvs.map fun p => (Sum.inl p.1, V.int p.2)
def dD2 (kvs : List (Int × Int)) : PyData := .dict (kvs.map fun p => (.int p.1, .int p.2))
/-- repr of a dict of ints -/
def rReprD : List V → Hp → VK → Prop := fun vs H Q => ∃ a kvs, vs = [.ref a] ∧ H a = some (.dK (dK2 kvs)) ∧ (dD2 kvs).showable = true ∧ (dD2 kvs).depth ≤ 60 ∧ (dD2 kvs).shown.length ≤ sizeLine ∧ Q (.str (dD2 kvs).shown) H
/-- repr of any of these -/
def rReprX (K : PySem.W.Frag) : List V → Hp → VK → Prop := fun vs H Q => rReprA K vs H Q ∨ (∃ b : Bool, vs = [.bl b] ∧ Q (.str (if b then "True" else "False")) H) ∨ (∃ x : Str, vs = [.str x] ∧ (reprText x).length ≤ sizeLine ∧ Q (.str (reprText x)) H) ∨ rReprD vs H Q
end
end L2
namespace Wb
open PySem L2
/-- what repr tells -/
inductive Rp (K : PySem.W.Frag) (H : Hp) : V → Str → Prop
  | data {a : Addr} {d : PyData} : Dp K H (.ref a) d → Shw d → Rp K H (.ref a) d.shown
  | non : Rp K H .non "None"
  | bl (b : Bool) : Rp K H (.bl b) (if b then "True" else "False")
  | int (i : Int) : i.natAbs.log2 < 1920 → Rp K H (.int i) (PyData.int i).shown
  | str (x : Str) : (reprText x).length ≤ sizeLine → Rp K H (.str x) (reprText x)
  | dict {a : Addr} {kvs : List (Int × Int)} : H a = some (.dK (dK2 kvs)) → (dD2 kvs).showable = true → (dD2 kvs).depth ≤ 60 → (dD2 kvs).shown.length ≤ sizeLine → Rp K H (.ref a) (dD2 kvs).shown
theorem Rp.same {K : PySem.W.Frag} {H H' : Hp} {v : V} {x : Str} (s : Same H H') (h : Rp K H v x) : Rp K H' v x := by
  cases h with
  | data h1 h2 => exact .data (h1.same s) h2
  | non => exact .non
  | bl b => exact .bl b
  | int i h => exact .int i h
  | str y h => exact .str y h
  | dict h1 h2 h3 h4 => exact .dict (s _ _ h1) h2 h3 h4
theorem Rp.repr {K : PySem.W.Frag} {H : Hp} {v : V} {x : Str} {Q : VK} (h : Rp K H v x) (q : Q (.str x) H) : rReprX K [v] H Q := by
  cases h with
  | data h1 h2 => exact .inl (.inl ⟨_, _, rfl, h1, h2.s, h2.h, h2.dep, h2.l, q⟩)
  | non => exact .inl (.inr (.inl ⟨rfl, q⟩))
  | bl b => exact .inr (.inl ⟨b, rfl, q⟩)
  | int i h => exact .inl (.inr (.inr ⟨i, rfl, h, q⟩))
  | str y h => exact .inr (.inr (.inl ⟨y, rfl, h, q⟩))
  | dict h1 h2 h3 h4 => exact .inr (.inr (.inr ⟨_, _, rfl, h1, h2, h3, h4, q⟩))
/-- small data -/
def Sm (d : PyData) : Prop := d.showable = true ∧ d.hasDict = false ∧ d.depth ≤ 3 ∧ d.shown.length ≤ 100
theorem sum_le {B : Nat} : ∀ {ts : List Str}, (∀ t ∈ ts, t.length ≤ B) → (ts.map (·.length)).sum ≤ ts.length * B
  | [], _ => by simp
  | t :: ts, h => by
    have h1 := h t (by simp)
    have h2 := sum_le (ts := ts) fun u hu => h u (List.mem_cons_of_mem _ hu)
    rw [List.map_cons, List.sum_cons, List.length_cons, Nat.succ_mul]
    omega
theorem Shw.lst {k B : Nat} {ds : List PyData} (h : ∀ d ∈ ds, d.showable = true ∧ d.hasDict = false ∧ d.depth ≤ k ∧ d.shown.length ≤ B) (hk : k < 60) (hB : ds.length * (B + 2) + 3 ≤ sizeLine) : Shw (.list ds) := by
  refine ⟨?_, ?_, ?_, Nat.le_trans ?_ hB⟩
  · rw [PyData.showable]; exact showableAll_of fun d hd => (h d hd).1
  · rw [PyData.hasDict]; exact hasDictAll_of fun d hd => (h d hd).2.1
  · rw [PyData.depth]; have := depthAll_of (k := k) fun d hd => (h d hd).2.2.1; omega
  · rw [PyData.shown, shownAll_map]
    have p := sum_le (B := B) (ts := ds.map PyData.shown) fun t ht => by
      obtain ⟨d, hd, rfl⟩ := List.mem_map.mp ht
      exact (h d hd).2.2.2
    have q := textFrom_len_le (ds.map PyData.shown) 0 (Str.ofString "[")
    rw [List.length_map] at p q
    unfold listText
    rw [strLen_append]
    have e1 : ((("[" : String) : Str)).length = 1 := rfl
    have e3 : ((("]" : String) : Str)).length = 1 := rfl
    rw [e1] at q
    rw [e3, Nat.mul_add]
    omega
/-- no tuple -/
inductive Ot (H : Hp) : V → String → Prop
  | int (i : Int) : Ot H (.int i) "int"
  | bl (b : Bool) : Ot H (.bl b) "bool"
  | non : Ot H .non "NoneType"
  | str (x : Str) : Ot H (.str x) "str"
  | lst {a : Addr} {xs : List V} : H a = some (.lst xs) → Ot H (.ref a) "list"
  | dict {a : Addr} {kvs : List (Key × V)} : H a = some (.dK kvs) → Ot H (.ref a) "dict"
theorem Ot.ty {K : PySem.W.Frag} {H : Hp} {v : V} {tn : String} (h : Ot H v tn) : TyV K H v (.type tn) := by
  cases h with
  | int i => exact .int i
  | bl b => exact .bl b
  | non => exact .non
  | str x => exact .str x
  | lst h => exact .lst (SqL.of h)
  | dict h => exact .dict h
theorem Ot.no {K : PySem.W.Frag} {H : Hp} {v : V} {tn : String} (h : Ot H v tn) : PySem.W.kitOne K (.type tn) (.type "tuple") = some false := by cases h <;> rfl
theorem Ot.same {H H' : Hp} {v : V} {tn : String} (s : Same H H') (h : Ot H v tn) : Ot H' v tn := by
  cases h with
  | int i => exact .int i
  | bl b => exact .bl b
  | non => exact .non
  | str x => exact .str x
  | lst h => exact .lst (s _ _ h)
  | dict h => exact .dict (s _ _ h)
theorem Ot.ntup {H : Hp} {r : Addr} {tn : String} {xs : List V} (h : Ot H (.ref r) tn) (e : H r = some (.tup xs)) : False := by
  cases h with
  | lst h => rw [e] at h; cases h
  | dict h => rw [e] at h; cases h
/-- a thing within a row: a tuple of plain things, or no tuple -/
inductive Pt (K : PySem.W.Frag) (H : Hp) : V → Option (List V) → Prop
  | tup {a : Addr} {xs : List V} : H a = some (.tup xs) → (∀ x ∈ xs, ∃ m, TyV K H x (.type m)) → xs.length ≤ 1000 → Pt K H (.ref a) (some xs)
  | oth {v : V} {tn : String} : Ot H v tn → Pt K H v none
theorem Pt.same {K : PySem.W.Frag} {H H' : Hp} {v : V} {o : Option (List V)} (s : Same H H') (h : Pt K H v o) : Pt K H' v o := by
  cases h with
  | tup h1 h2 h3 => exact .tup (s _ _ h1) (fun x hx => let ⟨m, hm⟩ := h2 x hx; ⟨m, hm.mono s⟩) h3
  | oth h1 => exact .oth (h1.same s)
theorem Pt.th {K : PySem.W.Frag} {H : Hp} {v : V} {o : Option (List V)} (h : Pt K H v o) : Th K H v o := by
  cases h with
  | tup h1 h2 h3 => exact .tup (SqT.of h1) h2 h3
  | oth h1 => exact .oth h1.ty h1.no
/-- a thing: a row of such, or no tuple -/
inductive Tg (K : PySem.W.Frag) (H : Hp) : V → Option (List V) → Prop
  | tup {a : Addr} {xs : List V} : SqT K H a xs → (∀ x ∈ xs, ∃ o, Pt K H x o) → xs.length ≤ 1000 → Tg K H (.ref a) (some xs)
  | oth {v : V} {tn : String} : Ot H v tn → Tg K H v none
theorem Tg.same {K : PySem.W.Frag} {H H' : Hp} {v : V} {o : Option (List V)} (s : Same H H') (h : Tg K H v o) : Tg K H' v o := by
  cases h with
  | tup h1 h2 h3 => exact .tup (s.sqT h1) (fun x hx => let ⟨m, hm⟩ := h2 x hx; ⟨m, hm.same s⟩) h3
  | oth h1 => exact .oth (h1.same s)
/-- what may stand in a row -/
def Em (K : PySem.W.Frag) (H : Hp) (x : V) : Prop := (∃ o, Pt K H x o) ∧ ∃ d, Dp K H x d ∧ Sm d
theorem Em.same {K : PySem.W.Frag} {H H' : Hp} {v : V} (s : Same H H') (h : Em K H v) : Em K H' v :=
  let ⟨⟨o, h1⟩, d, h2, h3⟩ := h; ⟨⟨o, h1.same s⟩, d, h2.same s, h3⟩
def Thing (K : PySem.W.Frag) (H : Hp) (v : V) : Prop := (∃ o, Tg K H v o) ∧ ∃ x, Rp K H v x
theorem Thing.same {K : PySem.W.Frag} {H H' : Hp} {v : V} (s : Same H H') (h : Thing K H v) : Thing K H' v :=
  let ⟨⟨o, h1⟩, x, h2⟩ := h; ⟨⟨o, h1.same s⟩, x, h2.same s⟩
instance (d : PyData) : Decidable (Sm d) := by unfold Sm; infer_instance
/-- the heap but for p -/
def Eh (p : Addr) (H : Hp) : Hp := fun a => if a = p then none else H a
end Wb

end
section
set_option Elab.async false
set_option linter.all false
set_option maxRecDepth 100000
namespace L2
open PySem PySem.Spec PyProof.Rows
theorem call_isiT {X : Cx} : CallR X (.builtin "isinstance") (rIsiT X.K) := by
  intro pins s σ H vs us Q I r h
  obtain ⟨x, p, cs, zs, t, b, rfl, hp, ht, hz, hk, q⟩ := h
  cases r with
  | cons r1 r2 =>
    cases r2 with
    | cons r2 r3 =>
      cases r3
      cases r2
      obtain ⟨_, its, rv, ⟨cl, dd, da, sl⟩, e, hc, n, hd⟩ := I.hok _ _ hp
      obtain rfl := hz _ rv
      obtain rfl : cl = .type "tuple" := hc
      obtain rfl : da = .seq its.toArray n := hd.1
      have fin : ∀ tk, EP X pins σ Q (.bool b) { s with toks := tk } := fun tk => ⟨.bl b, H, I.tok tk, rfl, q⟩
      cases ht with
      | int i => obtain ⟨tk, rfl⟩ := r1; exact PySem.W.kia_tup PySem.W.kitx_int I.kIn trivial e hk (by intro e; cases e) fin
      | bl y => cases r1; exact PySem.W.kia_tup PySem.W.kitx_bool I.kIn trivial e hk (by intro e; cases e) fin
      | non => cases r1; exact PySem.W.kia_tup PySem.W.kitx_none I.kIn trivial e hk (by intro e; cases e) fin
      | str y => obtain ⟨tk, rfl⟩ := r1; exact PySem.W.kia_tup PySem.W.kitx_str I.kIn trivial e hk (by intro e; cases e) fin
      | lst h1 => cases r1; obtain ⟨its, _, ⟨o, n, e2, hc, _⟩, _⟩ := I.list h1; exact PySem.W.kia_tup PySem.W.kitx_list I.kIn ⟨o, e2, hc⟩ e hk (by intro e; cases e) fin
      | tup h1 => cases r1; obtain ⟨its, _, ⟨o, e2, hc, _⟩, _⟩ := I.tuple h1; exact PySem.W.kia_tup PySem.W.kitx_tuple I.kIn ⟨o, e2, hc⟩ e hk (by intro e; cases e) fin
      | dict h1 =>
        cases r1
        obtain ⟨_, _, _, _, o, _, _, e2, hc, _⟩ := I.hok _ _ h1
        exact PySem.W.kia_tup PySem.W.kitx_dict I.kIn ⟨o, e2, hc.1⟩ e hk (by intro e; cases e) fin
      | exc h1 hC =>
        cases r1
        obtain ⟨h2, _⟩ := I.hok _ _ h1
        exact PySem.W.kia_tup (PySem.W.kitx_exc hC) I.kIn h2 e hk (by intro e; cases e) fin

/-! ### a def that may be called within an except suite: nothing is walked in it, nothing leaves it -/
structure RoomQ (k : Nat) (A : Around) : Prop where
  dp : A.depth + 3 * k + 5 < recursionLimit
  un : A.units + 16 * k + 200 < cLine
theorem Room.q {k : Nat} {A : Around} (r : Room k A) (h : Option Value) : RoomQ k (A.mark h) := ⟨r.dp, r.un⟩
theorem RoomQ.deeper {k : Nat} {A : Around} (r : RoomQ (k + 1) A) (env : Env) : RoomQ k (A.deeper env) :=
  ⟨by have := r.dp; show A.depth + 1 + 3 * k + 5 < _; omega, by have := r.un; show A.units + 3 + 16 * k + 200 < _; omega⟩
theorem RoomQ.depth {k : Nat} {A : Around} (r : RoomQ k A) : A.depth < recursionLimit := by have := r.dp; omega
theorem RoomQ.units {k : Nat} {A : Around} (r : RoomQ k A) : A.units + 64 < cLine := by have := r.un; omega
def cxQ (P : Program) (w : World) (K : PySem.W.Frag) (mg : Str → Option Value) (base : Heap) (N : List Str) (qual : Str) (scope : Scope) (f : Addr) (cd : Value) (A : Around) (outer : List Env) (s : Shared) (H : Hp) : Cx :=
  { cxOf CX0 P w K mg base N qual scope f cd A outer s H E0 with calm := false, xe := fun _ _ => False }
structure FnQ (P : Program) (w : World) (K : PySem.W.Frag) (mg : Str → Option Value) (base : Heap) (k : Nat) (f : Addr) (fd : FuncData) (ps : List Str) (sp : Sp) : Prop where
  len : ∀ vs H Q E, sp vs H Q E → vs.length = ps.length
  run : ∀ (A : Around) (outer : List Env) (s : Shared) (H : Hp) (args : Args) (us : List Value) (vs : List V) (Q : VK), RoomQ k A → Env0 P w K mg base A outer s H → BindsTo s fd args (ps.zip us) → Vals vs us → sp vs H Q E0 →
    codeAny (model P w) A (.call (.ref f) args) (CR CX0 outer P w H s Q E0) s
end L2

end
section
set_option Elab.async false
set_option linter.all false
set_option maxRecDepth 100000
namespace L2
open PySem PySem.Spec PyProof.Rows
/-! ### try: x = f(..), where the except suite still knows the names -/
/-- an exception of a callee, with the names as they stood at the call -/
def PassesS (CX : CXT) (X : Cx) (E : St → XK) : Prop := ∀ (pins : List (Addr × Obj)) (σ : St) (H : Hp) (s : Shared) (e : Value) (s' : Shared), Inv X pins σ H s → CX X.stack H s (E σ) e s' → X.xe e s'
def tCallS (sp : Sp) (E : St → XK) (t : TA) : TE := fun σ H Q => t σ H fun vs H1 => sp vs H1 Q (E σ)
/-- the first clause is met; the names stand as they did where the body raised -/
def tTryS (C : Addr) (i : Nat) (tb : (St → XK) → TS) (th : TS) : TS := fun D σ H => ∃ E : St → XK, tb E D σ H ∧ ∀ (c : Value) (x : Addr) (σ' : St) (H' : Hp), E σ' c (some x) H' → H' x = none →
  c = .ref C ∧ th { D with nx := fun σ' H2 => D.nx (σ'.set i none) H2, bk := fun σ' H2 => D.bk (σ'.set i none) H2, ct := fun σ' H2 => D.ct (σ'.set i none) H2 } (σ'.set i (some (.ref x))) (upd H' x (isE x C))
end L2

end
section
set_option Elab.async false
set_option linter.all false
set_option maxRecDepth 100000
namespace L2
open PySem PySem.Spec PyProof.Rows
section
variable {X : Cx}
/-- xs.insert(i, y), i a place of xs or just behind it -/
def rInsert : V → List V → Hp → VK → Prop := fun x vs H Q => ∃ (l : Addr) (xs : List V) (i : Int) (y : V), x = .ref l ∧ vs = [.int i, y] ∧ H l = some (.lst xs) ∧ 0 ≤ i ∧ i ≤ xs.length ∧ xs.length < sizeLine ∧ Q .non (upd H l (.lst (xs.take i.toNat ++ y :: xs.drop i.toNat)))
/-- xs.count(True) of a list of truths -/
def rCountB (K : PySem.W.Frag) : V → List V → Hp → VK → Prop := fun x vs H Q => ∃ (l : Addr) (bs : List Bool) (c : Bool), x = .ref l ∧ vs = [.bl c] ∧ H l = some (.lst (bs.map V.bl)) ∧ Q (.int (bs.countP (· == c) : Nat)) H
theorem vals_bl : ∀ {bs : List Bool} {its : List Value}, Vals (bs.map V.bl) its → its = bs.map Value.bool
  | [], _, r => by cases r; rfl
  | b :: bs, _, r => by
    cases r with
    | cons r1 r2 =>
      cases r1
      rw [vals_bl r2]
      rfl
theorem mt_countB : MtM X "list.count" (rCountB X.K) := by
  intro pins s σ H x vs v us Q I rx rv h
  obtain ⟨l, bs, c, rfl, rfl, hH, q⟩ := h
  cases rx
  obtain ⟨u, rfl, ru⟩ := rv.one
  cases ru
  obtain ⟨z, its, n, r, hl, e⟩ := I.lstM hH
  obtain rfl := vals_bl r
  refine call_meets F.slot_list_count ⟨_, e, rfl⟩ F.entry_list_count (F.args_list_count_2 _ _) (SeqAt.list_countAt l (bs.map Value.bool).toArray n none #[] (.bool c) (fun y => match y with | .bool b => b == c | _ => false)) ⟨e, fun y hy => ?_, ?_⟩
  · obtain ⟨b, _, rfl⟩ : ∃ b, b ∈ bs ∧ Value.bool b = y := by simpa using hy
    exact SeqAt.EqAt.bool_bool b c
  · have ec : List.countP (fun y => match y with | .bool b => b == c | _ => false) (bs.map Value.bool).toArray.toList = bs.countP (· == c) := by
      show List.countP _ (bs.map Value.bool) = _
      rw [List.countP_map]
      rfl
    rw [ec]
    exact ⟨.int _, H, I.tok _, ⟨_, rfl⟩, q⟩
end
end L2

end
section
set_option Elab.async false
set_option linter.all false
set_option maxRecDepth 100000
namespace L2
open PySem PySem.Spec PyProof.Rows
section
variable {X : Cx}
/-- xs.count(i) of a list of ints -/
def rCountI : V → List V → Hp → VK → Prop := fun x vs H Q => ∃ (l : Addr) (ns : List Int) (c : Int), x = .ref l ∧ vs = [.int c] ∧ H l = some (.lst (ns.map V.int)) ∧ Q (.int (ns.countP (· == c) : Nat)) H
end
end L2

end
section
set_option Elab.async false
set_option linter.all false
set_option maxRecDepth 100000
open PySem PySem.Spec PyProof.Rows
namespace L2
section
variable {X : Cx}
def rIndexT (K : PySem.W.Frag) : V → List V → Hp → VK → Prop := fun x xs H Q => ∃ (a : Addr) (ns : List Int) (c : Int) (j : Nat), x = .ref a ∧ xs = [.int c] ∧ SqT K H a (ns.map V.int) ∧ ns[j]? = some c ∧
  (∀ (m : Nat) (z : Int), m < j → ns[m]? = some z → z ≠ c) ∧ Q (.int (j : Nat)) H
/-- a method of a tuple -/
def tBMT (K : PySem.W.Frag) (r : V → List V → Hp → VK → Prop) (to : TE) (t : TA) : TE := fun σ H Q => to σ H fun x H1 => (∃ a xs, x = .ref a ∧ SqT K H1 a xs) ∧ t σ H1 fun xs H2 => r x xs H2 Q
end
end L2
namespace HT
section
variable {prog : Program} {w : World} {A : Around} {E : Value → Shared → Prop} {s : Shared}
end
end HT
namespace L2
section
variable {X : Cx}
/-- t[:0:-1] of a tuple -/
def tBackT (K : PySem.W.Frag) (te : TE) (tu ts : TO) : TE := fun σ H Q => te σ H fun x H1 => tu σ H1 fun u H2 => ts σ H2 fun k H3 => u = some 0 ∧ k = some (-1) ∧ ∃ a xs, x = .ref a ∧ SqT K H3 a xs ∧ 0 < xs.length ∧ ∀ p, H3 p = none → Q (.ref p) (upd H3 p (.tup (xs.drop 1).reverse))
end
end L2

end
section
set_option Elab.async false
set_option linter.all false
set_option maxRecDepth 100000
namespace SetM
open PySem PySem.SetTable
section
variable {prog : Program} {w : World} {A : Around} {E : Value → Shared → Prop} {s : Shared}
end
end SetM
namespace L2
open PySem PySem.Spec PyProof.Rows SetM PySem.SetTable
/-- some of ms, of each key one -/
structure Ded (ms ns : List Mem) : Prop where
  sub : ∀ m ∈ ns, m ∈ ms
  nd : (ns.map (·.2)).Nodup
  key : ∀ k, k ∈ ns.map (·.2) ↔ k ∈ ms.map (·.2)
theorem Ded.nil : Ded [] [] := ⟨fun m h => h, by simp, fun k => Iff.rfl⟩
theorem Ded.skip {ms ns : List Mem} {m : Mem} (h : Ded ms ns) (hm : m.2 ∈ ns.map (·.2)) : Ded (ms ++ [m]) ns :=
  ⟨fun x hx => List.mem_append.mpr (.inl (h.sub x hx)), h.nd, fun k => by
    rw [List.map_append, List.mem_append, ← h.key]
    refine ⟨.inl, fun z => z.elim id fun z => ?_⟩
    rw [List.map_singleton, List.mem_singleton] at z
    rw [z]; exact hm⟩
theorem Ded.put {ms ns : List Mem} {m : Mem} (h : Ded ms ns) (hm : m.2 ∉ ns.map (·.2)) : Ded (ms ++ [m]) (ns ++ [m]) :=
  ⟨fun x hx => by
    rcases List.mem_append.mp hx with hx | hx
    · exact List.mem_append.mpr (.inl (h.sub x hx))
    · exact List.mem_append.mpr (.inr hx), by
    rw [List.map_append, List.nodup_append]
    refine ⟨h.nd, by simp, fun a ha b hb e => ?_⟩
    rw [List.map_singleton, List.mem_singleton] at hb
    rw [e, hb] at ha
    exact hm ha, fun k => by rw [List.map_append, List.map_append, List.mem_append, List.mem_append, h.key]⟩
theorem Ded.len {ms ns : List Mem} (h : Ded ms ns) : ns.length ≤ ms.length := by
  have := h.nd.length_le_of_subset (l₂ := ms.map (·.2)) fun k hk => (h.key k).mp hk
  rwa [List.length_map, List.length_map] at this
section
variable {prog : Program} {w : World} {A : Around} {E : Value → Shared → Prop} {R : Result → Shared → Prop} {s : Shared}
end
section
variable {X : Cx}
/-- set(l) of a list of pairs -/
def rSetLD (K : PySem.W.Frag) (P : Program) (w : World) : List V → Hp → VK → Prop := fun vs H Q => ∃ t ms, vs = [.ref t] ∧ SqL K H t (ms.map fun m => V.ref m.1) ∧ MsOk H ms ∧ ms.length ≤ 306 ∧
  ∀ p ns, H p = none → Ded ms ns → Q (.ref p) (upd H p (SetO P w p ns))
end
end L2

end
section
/-! set(t) of a tuple of ints; len of a set of ints -/
set_option Elab.async false
set_option linter.all false
set_option maxRecDepth 100000
namespace L2
open PySem PySem.Spec PyProof.Rows SetM PySem.SetTable
section
variable {prog : Program} {w : World} {A : Around} {E : Value → Shared → Prop} {s : Shared}
/-- how many different ones -/
def dif (ns : List Int) : List Int := firstMet (fun i => ns.getD i 0) ns.length
end
section
variable {X : Cx}
/-- set(t) of a tuple of ints -/
def rSetTI (K : PySem.W.Frag) : List V → Hp → VK → Prop := fun vs H Q => ∃ t ns, vs = [.ref t] ∧ SqT K H t (ns.map V.int) ∧ ns.length ≤ 1000 ∧
  ∀ p, H p = none → Q (.ref p) (upd H p (.set (fun k => decide (k ∈ ns)) (dif ns).length))
/-- len of a set of ints -/
def rLenSI : List V → Hp → VK → Prop := fun vs H Q => ∃ a S n, vs = [.ref a] ∧ H a = some (.set S n) ∧ Q (.int n) H
end
end L2

end
section
/-! set(t) of a tuple of pairs; a list that is not empty -/
set_option Elab.async false
set_option linter.all false
set_option maxRecDepth 100000
namespace L2
open PySem PySem.Spec PyProof.Rows SetM PySem.SetTable
section
variable {prog : Program} {w : World} {A : Around} {E : Value → Shared → Prop} {R : Result → Shared → Prop} {s : Shared}
end
section
variable {X : Cx}
/-- set(t) of a tuple of pairs -/
def rSetTD (K : PySem.W.Frag) (P : Program) (w : World) : List V → Hp → VK → Prop := fun vs H Q => ∃ t ms, vs = [.ref t] ∧ SqT K H t (ms.map fun m => V.ref m.1) ∧ MsOk H ms ∧ ms.length ≤ 306 ∧
  ∀ p ns, H p = none → Ded ms ns → Q (.ref p) (upd H p (SetO P w p ns))
/-- a list is not an empty one -/
def rNeE (K : PySem.W.Frag) : V → V → Hp → VK → Prop := fun x y H Q => ∃ a b xs, x = .ref a ∧ y = .ref b ∧ SqL K H a xs ∧ SqL K H b [] ∧ Q (.bl (!decide (xs.length = 0))) H
theorem op_neE (hu : X.A.units + 64 < cLine) : OpR X (compareOp .NotEq) (rNeE X.K) := by
  intro pins s σ H x y v u Q I rx ry h
  obtain ⟨a, b, xs, rfl, rfl, ha, hb, q⟩ := h
  cases rx
  cases ry
  obtain ⟨i1, r1, p1, z1⟩ := I.list ha
  obtain ⟨i2, r2, p2, z2⟩ := I.list hb
  have l1 : xs.length = i1.length := r1.length
  have l2 : ([] : List V).length = i2.length := r2.length
  have l2 : i2.length = 0 := l2.symm
  have hu1 : X.A.units + 1 < cLine := by omega
  have hu0 : X.A.units < cLine := by omega
  by_cases c : xs.length = 0
  · have hb1 : (!decide (xs.length = 0)) = false := by rw [decide_eq_true c]; rfl
    rw [hb1] at q
    have s1 : i1.toArray.size = 0 := by rw [List.size_toArray]; omega
    have s2 : i2.toArray.size = 0 := by rw [List.size_toArray]; omega
    have k := SeqAt.RcNeAt.lists (A := X.A) (e := fun _ => true) p1.isList p2.isList (s1.trans s2.symm) hu0 (fun j j1 j2 => by omega)
    rw [s1] at k
    exact k _ _ _ _ ⟨.bl _, H, I, rfl, q⟩
  · have hb1 : (!decide (xs.length = 0)) = true := by rw [decide_eq_false c]; rfl
    rw [hb1] at q
    have := SeqAt.RcNeAt.lists_lengths (A := X.A) p1.isList p2.isList (by rw [List.size_toArray, List.size_toArray]; simp; omega) hu0
    exact this _ _ _ _ ⟨.bl _, H, I, rfl, q⟩
/-- a list is an empty one -/
def rEqE (K : PySem.W.Frag) : V → V → Hp → VK → Prop := fun x y H Q => ∃ a b xs, x = .ref a ∧ y = .ref b ∧ SqL K H a xs ∧ SqL K H b [] ∧ Q (.bl (decide (xs.length = 0))) H
theorem op_eqE (hu : X.A.units + 64 < cLine) : OpR X (compareOp .Eq) (rEqE X.K) := by
  intro pins s σ H x y v u Q I rx ry h
  obtain ⟨a, b, xs, rfl, rfl, ha, hb, q⟩ := h
  cases rx
  cases ry
  obtain ⟨i1, r1, p1, z1⟩ := I.list ha
  obtain ⟨i2, r2, p2, z2⟩ := I.list hb
  have l1 : xs.length = i1.length := r1.length
  have l2 : ([] : List V).length = i2.length := r2.length
  have l2 : i2.length = 0 := l2.symm
  have hu1 : X.A.units + 1 < cLine := by omega
  have hu0 : X.A.units < cLine := by omega
  by_cases c : xs.length = 0
  · have hb1 : (decide (xs.length = 0)) = true := decide_eq_true c
    rw [hb1] at q
    have s1 : i1.toArray.size = 0 := by rw [List.size_toArray]; omega
    have s2 : i2.toArray.size = 0 := by rw [List.size_toArray]; omega
    have k := SeqAt.RcAt.lists (A := X.A) (e := fun _ => true) p1.isList p2.isList (s1.trans s2.symm) hu0 (fun j j1 j2 => by omega)
    rw [s1] at k
    exact k _ _ _ _ ⟨.bl _, H, I, rfl, q⟩
  · have hb1 : (decide (xs.length = 0)) = false := decide_eq_false c
    rw [hb1] at q
    have := SeqAt.RcAt.lists_lengths (A := X.A) p1.isList p2.isList (by rw [List.size_toArray, List.size_toArray]; simp; omega) hu0
    exact this _ _ _ _ ⟨.bl _, H, I, rfl, q⟩
end
end L2

end
section
/-! an exception with a dict of its own in flight: its dict stays -/
set_option Elab.async false
set_option linter.all false
set_option maxRecDepth 100000
namespace PySem
open Sem (wp)
theorem Obj.dict_mapFields (f : Array Value → Array Value) (o : Obj) : (Obj.mapFields f o).dict = o.dict := by
  unfold Obj.mapFields
  split <;> rfl
/-- an exception at e of the class cls, its own dict at dd, its arguments at a0, a traceback with the flight fl -/
def TrcD (h base : Heap) (e : Addr) (cls a0 fl : Value) (dd : Option Addr) : Prop :=
  ∃ oe vs T oT ts, h.get? e = some oe ∧ (oe.cls = cls ∧ oe.dict = dd ∧ vs[0]? = some a0) ∧ oe.data = .fields vs ∧ vs[1]? = some (.ref T) ∧ base.get? T = none ∧ T ≠ e ∧ h.get? T = some oT ∧ oT.data = .fields ts ∧ ts[3]? = some fl
/-- what a station leaves -/
def StnD (base : Heap) (l : List Env) (e : Addr) (cls a0 fl : Value) (dd : Option Addr) (h h' : Heap) : Prop :=
  base.StaysIn h' ∧ h'.FunFrames base l ∧ TrcD h' base e cls a0 fl dd ∧ ∀ b o, h.get? b = some o → (∀ vs, o.data ≠ .fields vs) → ∃ sl, h'.get? b = some { o with slots := sl }
section
variable {M : Model} {A : Around} {E : Value → Shared → Prop} {s : Shared} {base : Heap} {l : List Env} {env : Env} {outer : List Env} {L e : Addr} {cls a0 fl : Value} {dd : Option Addr} {Q : Unit → Shared → Prop}
theorem setFlightD (hkb : base.StaysIn s.heap) (hl : s.heap.FunFrames base l) (ht : TrcD s.heap base e cls a0 fl dd)
    (h : ∀ h', StnD base l e cls a0 .none dd s.heap h' → (∀ b o, s.heap.get? b = some o → (∀ vs, o.data ≠ .fields vs) → h'.get? b = some o) → Q () { s with heap := h' }) : wpAny M A (setFlight (.ref e) none) Q E s := by
  obtain ⟨oe, vs, T, oT, ts, he, hc, hd, h1, hnT, hTe, hT, hdT, h3⟩ := ht
  have size3 : 3 < ts.size := (Array.getElem?_eq_some_iff.mp h3).1
  have other : ∀ b, b ≠ T → (s.heap.update T (Obj.mapFields (·.setIfInBounds 3 ((none : Option Addr).elim Value.none fun f => rawInt f)))).get? b = s.heap.get? b := fun b hb => Heap.get?_update_other _ _ (Ne.symm hb)
  have kept : ∀ b o, s.heap.get? b = some o → (∀ vs, o.data ≠ .fields vs) → (s.heap.update T (Obj.mapFields (·.setIfInBounds 3 ((none : Option Addr).elim Value.none fun f => rawInt f)))).get? b = some o := fun b o hb hn =>
    (other b fun q => by subst q; rw [hT] at hb; cases hb; exact hn ts hdT).trans hb
  unfold setFlight
  refine wpAny_bind (wpAny_field he hd h1 ?_)
  rw [if_pos (show (Value.ref T != Value.none) = true from by simp)]
  refine wpAny_setField hT hdT size3 (h _ ⟨fun b o hb => (other b fun q => by subst q; rw [hnT] at hb; cases hb).trans (hkb b o hb), hl.of_keeps fun b o hb hn => ⟨o, kept b o hb hn, rfl⟩, ?_, fun b o hb hn => ⟨o.slots, kept b o hb hn⟩⟩ kept)
  exact ⟨oe, vs, T, _, _, (other e (Ne.symm hTe)).trans he, hc, hd, h1, hnT, hTe, Heap.get?_update_self _ hT (Obj.isFreed_of_fields (Obj.data_mapFields hdT _)), Obj.data_mapFields hdT _, by simp [size3]⟩
/-- a traceback's entry is made and put at the exception -/
theorem entryD {oe : Obj} {vs : Array Value} {head : Value} {hadNext : Bool} (hfr : A.frames = some (env :: outer)) (hl : s.heap.FunFrames base (env :: outer)) (hf : env.frame = some L) (he : s.heap.get? e = some oe) (hkb : base.StaysIn s.heap) (hen : base.get? e = none)
    (hd : oe.data = .fields vs) (hsz : 1 < vs.size) (h0 : vs[0]? = some a0) (h : ∀ h', StnD base (env :: outer) e oe.cls a0 (rawInt L) oe.dict s.heap h' → Q () { s with heap := h' }) :
    wpAny M A (do let a ← frameOf env; let pl ← entryPlaceOf L hadNext; let b ← EntryCells.newEntry head a .none (rawInt L) .none pl; setField (.ref e) 1 b) Q E s := by
  have offFrames : e ∉ (env :: outer).filterMap (·.frame) := fun hm => by
    obtain ⟨_, o, ho, hnf⟩ := hl.mem hm
    rw [he] at ho; cases ho; exact hnf vs hd
  refine wpAny_bind (wpAny_frameOf_fun hfr hl hf fun g hg => wpAny_bind (wpAny_entryPlaceOf fun pl hpl => ?_))
  unfold EntryCells.newEntry newFields
  refine wpAny_bind (wpAny_newObj_type ?_ (hpl.sizeOk5 _ _ _ _ _))
  have eG : g.get? e = some oe := (hg.2.1 e offFrames).trans he
  have bG : base.StaysIn g := fun b o hb => (hg.2.1 b fun hm => by rw [(hl.mem hm).1] at hb; cases hb).trans (hkb b o hb)
  generalize hrec : ({ cls := .type "traceback", dict := none, data := .fields ([head, .ref L, .none, rawInt L, .none] ++ (if pl.isEmpty then List.replicate 6 Value.none else pl)).toArray } : Obj) = rec
  have hrd : rec.data = .fields ([head, .ref L, .none, rawInt L, .none] ++ (if pl.isEmpty then List.replicate 6 Value.none else pl)).toArray := by rw [← hrec]
  have hr3 : ([head, .ref L, .none, rawInt L, .none] ++ (if pl.isEmpty then List.replicate 6 Value.none else pl)).toArray[3]? = some (rawInt L) := by
    first | (simp; done) | (rcases hpl with rfl | ⟨_, _, _, _, _, _, _, rfl⟩ <;> simp)
  have eP := Heap.get?_push_of_some (h := g) rec eG
  have tP : (g.push rec).get? g.objs.size = some rec := Heap.get?_push_size g (by rw [← hrec]; rfl)
  have ne : g.objs.size ≠ e := Nat.ne_of_gt (Heap.lt_size eG)
  refine wpAny_setField eP hd hsz (h _ ?_)
  have dm := Obj.data_mapFields hd (·.setIfInBounds 1 (Value.ref g.objs.size))
  have keep : ∀ b o, b ≠ e → g.get? b = some o → ((g.push rec).update e (Obj.mapFields (·.setIfInBounds 1 (Value.ref g.objs.size)))).get? b = some o := fun b o hb hg' => by
    rw [Heap.get?_update_other _ _ (Ne.symm hb)]
    exact Heap.get?_push_of_some _ hg'
  have notE : ∀ b o, s.heap.get? b = some o → (∀ vs, o.data ≠ .fields vs) → b ≠ e := fun b o hb hn q => by
    subst q; rw [he] at hb; cases hb; exact hn vs hd
  refine ⟨fun b o hb => keep b o (fun q => by subst q; rw [hen] at hb; cases hb) (bG b o hb), hl.of_keeps fun b o hb hn => ?_, ?_, fun b o hb hn => ?_⟩
  · obtain ⟨sl, q⟩ := hg.2.2 b o hb
    exact ⟨_, keep b _ (notE b o hb hn) q, rfl⟩
  · exact ⟨_, _, g.objs.size, rec, _, Heap.get?_update_self _ eP (Obj.isFreed_of_fields dm), ⟨Obj.cls_mapFields _ _, Obj.dict_mapFields _ _, by rw [Array.getElem?_setIfInBounds_ne (by decide)]; exact h0⟩, dm, by simp [hsz], bG.fresh, ne, (Heap.get?_update_other _ _ (Ne.symm ne)).trans tP, hrd, hr3⟩
  · obtain ⟨sl, q⟩ := hg.2.2 b o hb
    exact ⟨sl, keep b _ (notE b o hb hn) q⟩
/-- .. and the flight ends -/
theorem entryD0 {oe : Obj} {vs : Array Value} {head : Value} {hadNext : Bool} (hfr : A.frames = some (env :: outer)) (hl : s.heap.FunFrames base (env :: outer)) (hf : env.frame = some L) (he : s.heap.get? e = some oe) (hkb : base.StaysIn s.heap) (hen : base.get? e = none)
    (hd : oe.data = .fields vs) (hsz : 1 < vs.size) (h0 : vs[0]? = some a0) (h : ∀ h', StnD base (env :: outer) e oe.cls a0 .none oe.dict s.heap h' → Q () { s with heap := h' }) :
    wpAny M A (do let a ← frameOf env; let pl ← entryPlaceOf L hadNext; let b ← EntryCells.newEntry head a .none (rawInt L) .none pl; setField (.ref e) 1 b) (fun _ s' => wpAny M A (setFlight (.ref e) none) Q E s') E s :=
  entryD hfr hl hf he hkb hen hd hsz h0 fun h1 ⟨a1, a2, a3, a4⟩ => setFlightD (s := { s with heap := h1 }) a1 a2 a3 fun h2 ⟨b1, b2, b3, b4⟩ k => h h2 ⟨b1, b2, b3, fun b o hb hn => by
    obtain ⟨sl, q⟩ := a4 b o hb hn
    exact ⟨sl, k b _ q hn⟩⟩
theorem leaving_firstD {oe : Obj} {vs : Array Value} (hfr : A.frames = some (env :: outer)) (hl : s.heap.FunFrames base (env :: outer)) (hf : env.frame = some L) (he : s.heap.get? e = some oe) (hkb : base.StaysIn s.heap) (hen : base.get? e = none)
    (hd : oe.data = .fields vs) (h1 : vs[1]? = some .none) (h0 : vs[0]? = some a0) (h : ∀ h', StnD base (env :: outer) e oe.cls a0 .none oe.dict s.heap h' → Q () { s with heap := h' }) : wpAny M A (leaving env (.ref e)) Q E s := by
  unfold leaving noteFrame
  simp only [hf]
  refine wpAny_bind (wpAny_bind (wpAny_field he hd h1 ?_))
  rw [if_neg (by decide)]
  exact entryD0 hfr hl hf he hkb hen hd (Array.getElem?_eq_some_iff.mp h1).1 h0 h
/-- a traceback is there: its flight is ended first -/
theorem onD {f : Sem Unit} {Q2 : Unit → Shared → Prop} {E2 : Value → Shared → Prop} (ht : TrcD s.heap base e cls a0 .none dd) (hl : s.heap.FunFrames base l) (hkb : base.StaysIn s.heap)
    (k : ∀ oe vs T oT ts, s.heap.get? e = some oe → oe.cls = cls → oe.dict = dd → vs[0]? = some a0 → oe.data = .fields vs → vs[1]? = some (.ref T) → s.heap.get? T = some oT → oT.data = .fields ts → ts[3]? = some .none → 3 < ts.size →
      (∀ (h1 : Heap), h1 = s.heap.update T (Obj.mapFields (·.setIfInBounds 3 Value.none)) → h1.get? e = some oe ∧ h1.FunFrames base l ∧ base.StaysIn h1 ∧ ∀ b o, s.heap.get? b = some o → (∀ vs, o.data ≠ .fields vs) → h1.get? b = some o) → wpAny M A f Q2 E2 s) : wpAny M A f Q2 E2 s := by
  obtain ⟨oe, vs, T, oT, ts, he, ⟨c1, c2, c3⟩, hd, h1, hnT, hTe, hT, hdT, h3⟩ := ht
  refine k oe vs T oT ts he c1 c2 c3 hd h1 hT hdT h3 (Array.getElem?_eq_some_iff.mp h3).1 fun hh e1 => ?_
  subst e1
  have other : ∀ b, b ≠ T → (s.heap.update T (Obj.mapFields (·.setIfInBounds 3 Value.none))).get? b = s.heap.get? b := fun b hb => Heap.get?_update_other _ _ (Ne.symm hb)
  have kept : ∀ b o, s.heap.get? b = some o → (∀ vs, o.data ≠ .fields vs) → (s.heap.update T (Obj.mapFields (·.setIfInBounds 3 Value.none))).get? b = some o := fun b o hb hn =>
    (other b fun q => by subst q; rw [hT] at hb; cases hb; exact hn ts hdT).trans hb
  exact ⟨(other e (Ne.symm hTe)).trans he, hl.of_keeps fun b o hb hn => ⟨o, kept b o hb hn, rfl⟩, fun b o hb => (other b fun q => by subst q; rw [hnT] at hb; cases hb).trans (hkb b o hb), kept⟩
theorem leaving_nextD (hfr : A.frames = some (env :: outer)) (hl : s.heap.FunFrames base (env :: outer)) (hf : env.frame = some L) (ht : TrcD s.heap base e cls a0 .none dd) (hkb : base.StaysIn s.heap) (hen : base.get? e = none)
    (h : ∀ h', StnD base (env :: outer) e cls a0 .none dd s.heap h' → Q () { s with heap := h' }) : wpAny M A (leaving env (.ref e)) Q E s := by
  refine onD ht hl hkb fun oe vs T oT ts he c1 c2 c3 hd h1 hT hdT h3 hz k => ?_
  subst c1 c2
  obtain ⟨k1, k2, k3, k4⟩ := k _ rfl
  unfold leaving noteFrame
  simp only [hf]
  refine wpAny_bind (wpAny_bind (wpAny_field he hd h1 ?_))
  rw [if_pos (show (Value.ref T != Value.none) = true from by simp)]
  refine wpAny_bind (wpAny_field hT hdT h3 ?_)
  rw [if_neg (show ¬ ((Value.none == rawInt L) = true) from by simp [rawInt])]
  refine wpAny_bind (wpAny_setField hT hdT hz ?_)
  exact entryD0 hfr k2 hf k1 k3 hen hd (Array.getElem?_eq_some_iff.mp h1).1 c3 fun h' ⟨x1, x2, x3, x4⟩ => h h' ⟨x1, x2, x3, fun b o hb hn => x4 b o (k4 b o hb hn) hn⟩
theorem noteFrameD (hfr : A.frames = some (env :: outer)) (hl : s.heap.FunFrames base (env :: outer)) (hf : env.frame = some L) (ht : TrcD s.heap base e cls a0 .none dd) (hkb : base.StaysIn s.heap) (hen : base.get? e = none)
    (h : ∀ h', StnD base (env :: outer) e cls a0 (rawInt L) dd s.heap h' → Q () { s with heap := h' }) : wpAny M A (noteFrame (.ref e) env) Q E s := by
  refine onD ht hl hkb fun oe vs T oT ts he c1 c2 c3 hd h1 hT hdT h3 hz k => ?_
  subst c1 c2
  obtain ⟨k1, k2, k3, k4⟩ := k _ rfl
  unfold noteFrame
  simp only [hf]
  refine wpAny_bind (wpAny_field he hd h1 ?_)
  rw [if_pos (show (Value.ref T != Value.none) = true from by simp)]
  refine wpAny_bind (wpAny_field hT hdT h3 ?_)
  rw [if_neg (show ¬ ((Value.none == rawInt L) = true) from by simp [rawInt])]
  refine wpAny_bind (wpAny_setField hT hdT hz ?_)
  exact entryD hfr k2 hf k1 k3 hen hd (Array.getElem?_eq_some_iff.mp h1).1 c3 fun h' ⟨x1, x2, x3, x4⟩ => h h' ⟨x1, x2, x3, fun b o hb hn => x4 b o (k4 b o hb hn) hn⟩
end
end PySem

end
section
/-! own classes of exceptions with an __init__ and fields: reading and storing a field, the making -/
set_option Elab.async false
set_option linter.all false
set_option maxRecDepth 100000
namespace PySem
open PySem PySem.Spec PySem.Calls PyProof.Rows PySem.W
section
variable {prog : Program} {w : World} {A : Around} {E : Value → Shared → Prop} {s : Shared} {K : Frag} {x C : Addr} {ox : Obj} {od : Option Obj} {name : Str} {expr : Bool} {v : Value}
/-- own classes over ValueError -/
def overV : List Value → Bool
  | .ref _ :: r => overV r
  | l => l == [.type "ValueError", .type "Exception", .type "BaseException", .type "object"]
/-- what of the text a class of exceptions with fields must have -/
structure XCls (K : Frag) (C : Addr) : Prop where
  ga : findIn K (.ref C) "__getattribute__" = some (some (.builtin "BaseException.__getattribute__"))
  gb : findIn K (.ref C) "__getattr__" = some none
  sa : findIn K (.ref C) "__setattr__" = some (some (.builtin "object.__setattr__"))
  mb : mroIn K C (.type "BaseException") = some true
  mo : mroIn K C (.type "object") = some true
  ov : ∃ cd, clsIn K C = some cd ∧ overV cd.mro = true ∧ cd.hasDict = true
end
section
variable {prog : Program} {w : World} {A : Around} {E : Value → Shared → Prop} {h : Heap} {g : Array GenState} {d : Drawn} {t : Nat} {os : OsState} {K : Frag}
variable {nm q : Str} {C N fI : Addr} {bs bm bmB : List Value} {hdct : Bool} {sn : List Str} {sub : List Value} {ab : Bool} {col : Option Bool} {dd : Option Addr} {k0 k1 k2 k3 k5 : Option Value} {B newId initId : String}
/-- an exception as it is made (no traceback yet), its own dict at de, its arguments at t -/
def newX (C : Addr) (de : Option Addr) (t : Addr) : Obj := { cls := .ref C, dict := de, data := .fields #[.ref t, .none, .none, .none, .bool false, .none] }
end
end PySem

end
section
/-! exceptions with a dict of their own, in the layer -/
set_option Elab.async false
set_option linter.all false
set_option maxRecDepth 100000
namespace L2
open PySem PySem.Spec PyProof.Rows
/-- an exception of the class at C with its own dict at dd (where it has one), a traceback at T with the flight fl -/
def TrD (h : Heap) (x T C : Addr) (dd : Option Addr) (a0 fl : Value) : Prop := ∃ oe vs oT ts, h.get? x = some oe ∧ (oe.cls = .ref C ∧ oe.dict = dd ∧ vs[0]? = some a0) ∧ oe.data = .fields vs ∧ vs[1]? = some (.ref T) ∧ T ≠ x ∧ h.get? T = some oT ∧ oT.data = .fields ts ∧ ts[3]? = some fl
theorem TrD.of {h base : Heap} {x C : Addr} {dd : Option Addr} {a0 fl : Value} (t : TrcD h base x (.ref C) a0 fl dd) : ∃ T, base.get? T = none ∧ TrD h x T C dd a0 fl :=
  let ⟨oe, vs, T, oT, ts, a, b, c, d, e, f, i⟩ := t
  ⟨T, e, oe, vs, oT, ts, a, b, c, d, f, i⟩
theorem TrD.to {h base : Heap} {x T C : Addr} {dd : Option Addr} {a0 fl : Value} (t : TrD h x T C dd a0 fl) (n : base.get? T = none) : TrcD h base x (.ref C) a0 fl dd :=
  let ⟨oe, vs, oT, ts, a, b, c, d, f, i⟩ := t
  ⟨oe, vs, T, oT, ts, a, b, c, d, n, f, i⟩
/-- E: the class, the dict's address, the heap -/
def CX3 (P : Program) (w : World) : CXT := fun outer H s E e s' => ∃ x T C dd a0 H', e = .ref x ∧ s'.os = s.os ∧ AllBare s'.gens ∧ Un (frs outer) [] H H' s.heap s'.heap ∧ HOk P w H' s'.heap ∧
  H' x = none ∧ H' T = none ∧ s.heap.get? x = none ∧ s.heap.get? T = none ∧ TrD s'.heap x T C dd a0 .none ∧ E (.ref C) dd H'
structure XOk3 (X : Cx) (E : XK) : Prop where
  ex : X.ex = []
  raised : ∀ (pins : List (Addr × Obj)) (σ : St) (H : Hp) (s : Shared) (x C : Addr) (dd : Option Addr) (oe : Obj) (vs : Array Value) (a0 : Value), Inv X pins σ H s → Ap X pins H x → s.heap.get? x = some oe → oe.cls = .ref C → oe.dict = dd → oe.data = .fields vs → vs[0]? = some a0 → vs[1]? = some .none →
    E (.ref C) dd H → X.xe (.ref x) s
  pass : Passes (CX3 X.prog X.w) X E

section
variable {CX : CXT} {P : Program} {w : World} {K : PySem.W.Frag} {mg : Str → Option Value} {base : Heap} {N : List Str} {qual : Str} {scope : Scope} {f : Addr} {cd : Value} {A : Around} {outer : List Env} {s0 : Shared} {H0 : Hp} {E : XK}
theorem cx3_of {pins : List (Addr × Obj)} {σ : St} {H : Hp} {s : Shared} {h2 : Heap} {x T C : Addr} {dd : Option Addr} {a0 : Value} (I : Inv (cxOf (CX3 P w) P w K mg base N qual scope f cd A outer s0 H0 E) pins σ H s)
    (hx : H x = none) (hT : H T = none) (x0 : s0.heap.get? x = none) (T0 : s0.heap.get? T = none)
    (keep : ∀ b o, b ∉ frs (envOfC qual scope s0.heap.objs.size f cd :: outer) → b ≠ x → b ≠ T → s.heap.get? b = some o → h2.get? b = some o)
    (slot : ∀ b o, b ∈ frs (envOfC qual scope s0.heap.objs.size f cd :: outer) → s.heap.get? b = some o → ∃ sl, h2.get? b = some { o with slots := sl })
    (tr : TrD h2 x T C dd a0 .none) (q : E (.ref C) dd H) : CX3 P w outer H0 s0 E (.ref x) { s with heap := h2 } := by
  have fr0 : ∀ b, b ∈ frs (envOfC qual scope s0.heap.objs.size f cd :: outer) → b = s0.heap.objs.size ∨ b ∈ frs outer := fun b hb => List.mem_cons.mp (I.stkSub b hb)
  have nx : ∀ b o, s0.heap.get? b = some o → b ≠ x ∧ b ≠ T ∧ b ≠ s0.heap.objs.size := fun b o e => ⟨(fun z => by rw [z, x0] at e; cases e), (fun z => by rw [z, T0] at e; cases e), Nat.ne_of_lt (Heap.lt_size e)⟩
  have any : ∀ b o o', s0.heap.get? b = some o → s.heap.get? b = some o' → ∃ sl, h2.get? b = some { o' with slots := sl } := fun b o o' e e' => by
    by_cases hb : b ∈ frs (envOfC qual scope s0.heap.objs.size f cd :: outer)
    · exact slot b o' hb e'
    · exact ⟨o'.slots, keep b o' hb (nx b o e).1 (nx b o e).2.1 e'⟩
  have B := I.base
  refine ⟨x, T, C, dd, a0, H, rfl, I.os, I.bare, ⟨fun b o e n hb hz => ?_, fun b o e n hb hz => ?_, B.free, fun b o e hz => ?_, B.tups, B.frzs, B.tbls⟩, fun b u e => ?_, hx, hT, x0, T0, tr, q⟩
  · exact keep b o (fun z => (fr0 b z).elim (nx b o e).2.2 hb) (nx b o e).1 (nx b o e).2.1 (B.keep b o e n hb hz)
  · obtain ⟨sl, e1⟩ := B.slot b o e n hb hz
    obtain ⟨sl', e2⟩ := any b o _ e e1
    exact ⟨sl', e2⟩
  · obtain ⟨o', e1⟩ := B.there b o e hz
    obtain ⟨sl, e2⟩ := any b o o' e e1
    exact ⟨_, e2⟩
  · have nit : ∀ b u, H b = some u → b ≠ x ∧ b ≠ T ∧ b ∉ frs (envOfC qual scope s0.heap.objs.size f cd :: outer) := fun b u e =>
      ⟨(fun z => by rw [z, hx] at e; cases e), (fun z => by rw [z, hT] at e; cases e), (fun z => by have := I.stkFree b z; rw [e] at this; cases this)⟩
    refine (I.hok b u e).stay (fun c v hc q => ?_) (fun _ q => q) fun _ _ q => q
    rcases hc with z | z
    · rw [z] at q ⊢; exact keep b v (nit b u e).2.2 (nit b u e).1 (nit b u e).2.1 q
    · exact keep c v (nit c _ z).2.2 (nit c _ z).1 (nit c _ z).2.1 q
/-- behind a station: the heap, the traceback -/
theorem stn {X : Cx} {pins : List (Addr × Obj)} {σ : St} {H : Hp} {s : Shared} {x C : Addr} {dd : Option Addr} {a0 fl : Value} {h2 : Heap} {more : List Addr} (I : Inv X pins σ H s) (hex : X.ex = []) (ax : Ap X pins H x)
    (hm : ∀ b ∈ more, Ap X pins H b) (st : StnD (PySem.W.hideAll s.heap (x :: (more ++ frs X.stack))) X.stack x (.ref C) a0 fl dd s.heap h2) :
    (∀ b o, b ∉ frs X.stack → b ≠ x → b ∉ more → s.heap.get? b = some o → h2.get? b = some o) ∧ (∀ b o, b ∈ frs X.stack → s.heap.get? b = some o → ∃ sl, h2.get? b = some { o with slots := sl }) ∧ ∃ T, Ap X pins H T ∧ TrD h2 x T C dd a0 fl := by
  obtain ⟨k1, k2, k3, k4⟩ := st
  have hB0 : ∀ b o, b ∉ (x :: (more ++ frs X.stack)) → s.heap.get? b = some o → (PySem.W.hideAll s.heap (x :: (more ++ frs X.stack))).get? b = some o := fun b o hb e => PySem.W.hideAll_get _ e hb
  refine ⟨fun b o hb hbx hm e => k1 b o (hB0 b o (fun m => (List.mem_cons.mp m).elim hbx fun m => (List.mem_append.mp m).elim hm hb) e), fun b o hb e => ?_, ?_⟩
  · obtain ⟨_, o', ho', hd⟩ := I.stack.mem hb
    rw [e] at ho'; cases ho'
    exact k4 b o e hd
  · obtain ⟨T, hTb, tr⟩ := TrD.of k3
    refine ⟨T, ?_, tr⟩
    obtain ⟨_, _, oT, ts, _, _, _, _, f6, f7, f8, _⟩ := id tr
    have hTf : T ∉ frs X.stack := fun z => by
      obtain ⟨_, o, ho, hd⟩ := k2.mem z
      rw [f7] at ho; cases ho
      exact hd _ f8
    by_cases hin : T ∈ more
    · exact hm T hin
    · have : s.heap.get? T = none := by
        cases z : s.heap.get? T with
        | none => rfl
        | some o =>
          have := hB0 T o (fun m => (List.mem_cons.mp m).elim f6 fun m => (List.mem_append.mp m).elim hin hTf) z
          rw [hTb] at this; cases this
      obtain ⟨p1, p2, p3, p4, p5⟩ := I.apart hex this
      exact ⟨p1, p2, p3, p4, p5, I.hok.none_of this⟩
theorem Ap.of_new {X : Cx} {pins : List (Addr × Obj)} {σ : St} {H : Hp} {s : Shared} {x : Addr} (I : Inv X pins σ H s) (hex : X.ex = []) (h : s.heap.get? x = none) : Ap X pins H x :=
  let ⟨p1, p2, p3, p4, p5⟩ := I.apart hex h
  ⟨p1, p2, p3, p4, p5, I.hok.none_of h⟩
theorem xok3_cx : XOk3 (cxOf (CX3 P w) P w K mg base N qual scope f cd A outer s0 H0 E) E := by
  have fh : ∀ {h : Heap} {as : List Addr}, h.FunFrames base (envOfC qual scope s0.heap.objs.size f cd :: outer) → (∀ b ∈ frs (envOfC qual scope s0.heap.objs.size f cd :: outer), b ∈ as) → h.FunFrames (PySem.W.hideAll h as) (envOfC qual scope s0.heap.objs.size f cd :: outer) := fun hf hs => PySem.W.funFrames_hide hf fun env hen a ha => hs a (List.mem_filterMap.mpr ⟨env, hen, ha⟩)
  refine ⟨rfl, ?_, ?_⟩
  · intro pins σ H s x C dd oe vs a0 I ax he hc hd hv h0 h1 q
    subst hd
    show wpAny _ _ (leaving _ _) _ _ _
    refine leaving_firstD (base := PySem.W.hideAll s.heap (x :: ([] ++ frs (envOfC qual scope s0.heap.objs.size f cd :: outer)))) (a0 := a0) I.ok.frames (fh I.stack fun b hb => List.mem_cons_of_mem _ hb) rfl he (fun b o q => PySem.W.of_hideAll _ q) (PySem.W.hideAll_none _ (List.mem_cons_self ..)) hv h1 h0 fun h2 hL => ?_
    rw [hc] at hL
    obtain ⟨k1, k2, T, aT, tr⟩ := stn (more := []) I rfl ax (fun b hb => absurd hb (by simp)) hL
    exact cx3_of I ax.free aT.free ax.s0 aT.s0 (fun b o hb hbx _ e => k1 b o hb hbx (by simp) e) k2 tr q
  · intro pins σ H s e s' I hcx
    obtain ⟨x, T, C, dd, a0, H', rfl, os, bare, un, hok, hxH, hTH, x0, T0, tr, q⟩ := hcx
    have ap := I.apart rfl x0
    have apT := I.apart rfl T0
    obtain ⟨hh, g, d, t, os'⟩ := s'
    obtain rfl : os' = s.os := os
    have I1 := I.call (h' := hh) (g' := g) (d' := d) (t' := t) (ch := []) un hok bare (fun b z => absurd z (by simp))
    have ax : Ap _ pins H' x := ⟨ap.1, ap.2.1, ap.2.2.1, ap.2.2.2.1, ap.2.2.2.2, hxH⟩
    have aT : Ap _ pins H' T := ⟨apT.1, apT.2.1, apT.2.2.1, apT.2.2.2.1, apT.2.2.2.2, hTH⟩
    show wpAny _ _ (leaving _ _) _ _ _
    refine leaving_nextD (base := PySem.W.hideAll hh (x :: ([T] ++ frs (envOfC qual scope s0.heap.objs.size f cd :: outer)))) (cls := .ref C) (a0 := a0) (dd := dd) I.ok.frames (fh I1.stack fun b hb => List.mem_cons_of_mem _ (List.mem_append_right _ hb)) rfl
      (tr.to (PySem.W.hideAll_none _ (by simp))) (fun b o q => PySem.W.of_hideAll _ q) (PySem.W.hideAll_none _ (List.mem_cons_self ..)) fun h2 hL => ?_
    obtain ⟨k1, k2, T2, aT2, tr2⟩ := stn (more := [T]) I1 rfl ax (fun b hb => by rw [List.mem_singleton.mp hb]; exact aT) hL
    -- the old traceback is no one's
    have I2 : Inv (cxOf (CX3 P w) P w K mg base N qual scope f cd A outer s0 H0 E) pins σ H' { heap := h2, gens := g, drawn := d, toks := t, os := s.os } := by
      refine I1.stepX (ch := [x, T]) (t' := t) (fun b hb => ?_) (fun b o hb hc e => k1 b o hb (fun z => hc (by simp [z])) (fun z => hc (by simp at z; simp [z])) e) fun b o hb e => k2 b o hb e
      have : b = x ∨ b = T := by simpa using hb
      rcases this with rfl | rfl
      · exact ⟨ax.s0, ax.loc, ax.cel, ax.pin, ax.free⟩
      · exact ⟨aT.s0, aT.loc, aT.cel, aT.pin, aT.free⟩
    exact cx3_of (s := { heap := h2, gens := g, drawn := d, toks := t, os := s.os }) (h2 := h2) I2 ax.free aT2.free ax.s0 aT2.s0 (fun b o _ _ _ e => e) (fun b o _ e => ⟨o.slots, e⟩) tr2 q
end
/-- a def that may raise -/
theorem Fun.ok3 {P : Program} {w : World} {K : PySem.W.Frag} {mg : Str → Option Value} {base : Heap} {x qual : Str} {st : Stmt} {f : Addr} {fd : FuncData} {N ps : List Str} {k : Nat} {sp : Sp} (F : Fun K x qual st f fd) (S : FnScope N ps (defScope st)) (len : ∀ vs H Q E, sp vs H Q E → vs.length = ps.length)
    (hbody : ∀ (cdv : Value) (A : Around) (outer : List Env) (s : Shared) (H : Hp) (vs : List V) (Q : VK) (E : XK), Room k (A.deeper (envOfC qual (defScope st) s.heap.objs.size f cdv)) → XOk3 (cxOf (CX3 P w) P w K mg base N qual (defScope st) f cdv A outer s H E) E → sp vs H Q E →
      ∃ t, PSs (cxOf (CX3 P w) P w K mg base N qual (defScope st) f cdv A outer s H E) (defBody st) t ∧ t { nx := fun _ H' => Q .non H', rt := Q } (start N vs) H) : FnOk P w K mg base (CX3 P w) (k + 1) f fd ps sp := by
  obtain ⟨oc, od, kV, doc, pm, an, cdv, ct, osl, rfl, lk, hcd⟩ := F.ex
  exact fn_of lk hcd S len fun A outer s H vs Q E hr hsp => hbody cdv A outer s H vs Q E hr xok3_cx hsp
/-- raise C() of an own class without an __init__ -/
def tRaise3 (C : Addr) (E : XK) : TS := fun _ _ H => E (.ref C) none H
theorem ps_raise3 {X : Cx} {x : Str} {C : Addr} {E : XK} {np cpos pos : Pos} (O : Own X.K X.mg x C) (hX : XOk3 X E) (hh : X.A.handled = none) (hg : Gl X x) (hd : (x == ("__debug__" : Str)) = false := by decide) :
    PS X (.Raise (some (.Call (.Name x np) [] [] cpos)) none pos) (tRaise3 C E) := by
  intro pins s σ H D I h
  obtain ⟨newId, initId, bmB, FB, q⟩ := O.ex
  obtain ⟨bm, N, nm, qn, bs, hdct, sn, sub, ab, col, dd, k0, k1, k2, k3, k5, mN, hC, hN, hni, T⟩ := exc_of_in I.kIn q
  refine wpAny_Raise_call_subT (C := C) (nm := nm) (q := qn) (N := N) (bs := bs) (bm := bm) (hdct := hdct) (sn := sn) (sub := sub) (ab := ab) (col := col) (dd := dd) (k0 := k0) (k1 := k1) (k2 := k2) (k3 := k3) (k5 := k5)
    FB (mN := mN) (T.hasType FB.hasBase) hh rfl hni (ld_glob I hg O.nm ⟨rfl, ?_⟩ hd)
  refine evalArgs_empty ⟨rfl, Nat.zero_le _, hC, hN, T, fun h' e hm => ?_⟩
  obtain ⟨t, he, _, _⟩ := hm.there
  have ap := Ap.of_new I hX.ex hm.new
  exact hX.raised pins σ H { s with heap := h' } e C none _ _ (.ref t) (I.kept (t' := s.toks) hm.keeps) ap he rfl rfl rfl rfl rfl h
end L2

end
section
/-! raise C(..) where C has its own __init__; a field stored, a field read; try with several clauses -/
set_option Elab.async false
set_option linter.all false
set_option maxRecDepth 100000
namespace L2
open PySem PySem.Spec PyProof.Rows
/-- an exception that is being made; one in hand -/
def isN (x C : Addr) (dd : Option Addr) : HO := .ext fun h => ∃ t, h.get? x = some (newX C dd t)
def isD (x C : Addr) (dd : Option Addr) : HO := .ext fun h => ∃ o vs, h.get? x = some o ∧ o.cls = .ref C ∧ o.dict = dd ∧ o.data = .fields vs
/-- a class's object, as the raising asks it -/
def exOk (o : Obj) (C R : Addr) (bmB : List Value) (newId : String) : Bool := match o with
  | ⟨.type "type", _, .cls cd, sl⟩ => (match sl.toList with
    | [_, _, _, _, some (.builtin n), _] => n == newId && cd.mro == .ref C :: .ref R :: bmB && !cd.hasDel
    | _ => false)
  | _ => false
/-- the class at C, a class with its own __init__ at fI below an own class R of exceptions, by its name x -/
structure OwnI (K : PySem.W.Frag) (mg : Str → Option Value) (x : Str) (C fI : Addr) : Prop where
  nm : mg x = some (.ref C)
  ex : ∃ R newId initId bmB, ExcBaseFacts "ValueError" newId initId bmB ∧ PySem.W.excIn K R bmB newId = true ∧ ∃ o, K.lookup C = some o ∧ exOk o C R bmB newId = true
  xc : PySem.XCls K C
  hi : PySem.W.findIn K (.ref C) "__init__" = some (some (.ref fI))
  hf : PySem.W.isFn K (.ref fI) = true
  kp : PySem.W.keepIn K (.ref C) = true
theorem exOk_at {o : Obj} {C R : Addr} {bmB : List Value} {newId : String} (q : exOk o C R bmB newId = true) :
    ∃ N nm qn bs hdct sn sub ab col dd k0 k1 k2 k3 k5, o = excClassObj nm qn C N bs (.ref R :: bmB) hdct sn sub ab col dd k0 k1 k2 k3 k5 newId := by
  unfold exOk at q
  split at q
  · rename_i dd cd sl
    split at q
    · rename_i k0 k1 k2 k3 n k5 hs
      simp only [Bool.and_eq_true, beq_iff_eq, Bool.not_eq_true'] at q
      obtain ⟨⟨rfl, hm⟩, hdel⟩ := q
      obtain ⟨nm, bs, mro, ns, qn, hd, sn, sub, ab, col, del⟩ := cd
      dsimp only at hm hdel
      subst hm hdel
      have hsl : sl = #[k0, k1, k2, k3, some (.builtin n), k5] := by
        obtain ⟨l⟩ := sl
        simp only at hs
        rw [hs]
      subst hsl
      exact ⟨ns, nm, qn, bs, hd, sn, sub, ab, col, dd, k0, k1, k2, k3, k5, rfl⟩
    · cases q
  · cases q
theorem exi_of_in {K : PySem.W.Frag} {h : Heap} {C R : Addr} {bmB : List Value} {newId : String} {o : Obj} (X : K.In h) (hR : PySem.W.excIn K R bmB newId = true) (ho : K.lookup C = some o) (q : exOk o C R bmB newId = true) :
    ∃ N nm qn bs hdct sn sub ab col dd k0 k1 k2 k3 k5, h.get? C = some (excClassObj nm qn C N bs (.ref R :: bmB) hdct sn sub ab col dd k0 k1 k2 k3 k5 newId) ∧ OwnTail h bmB (.ref R :: bmB) := by
  obtain ⟨_, NR, _, _, _, _, _, _, _, _, _, _, _, _, _, _, mR, aR, bR, cR, _⟩ := exc_of_in X hR
  obtain ⟨N, nm, qn, bs, hdct, sn, sub, ab, col, dd, k0, k1, k2, k3, k5, rfl⟩ := exOk_at q
  exact ⟨N, nm, qn, bs, hdct, sn, sub, ab, col, dd, k0, k1, k2, k3, k5, X _ _ ho, .own aR bR cR .base⟩
/-- a class that a clause may name -/
structure Cat (K : PySem.W.Frag) (mg : Str → Option Value) (x : Str) (D : Addr) : Prop where
  nm : mg x = some (.ref D)
  ob : ∀ h : Heap, K.In h → ∃ nm q N bs bm hdct sn sub ab col dd k0 k1 k2 k3 k5 newId, h.get? D = some (excClassObj nm q D N bs bm hdct sn sub ab col dd k0 k1 k2 k3 k5 newId) ∧ bm.contains (.type "BaseException") = true
theorem Own.cat {K : PySem.W.Frag} {mg : Str → Option Value} {x : Str} {D : Addr} (O : Own K mg x D) : Cat K mg x D := ⟨O.nm, fun h X => by
  obtain ⟨newId, initId, bmB, FB, q⟩ := O.ex
  obtain ⟨bm, N, nm, qn, bs, hdct, sn, sub, ab, col, dd, k0, k1, k2, k3, k5, mN, hC, hN, hni, T⟩ := exc_of_in X q
  exact ⟨nm, qn, N, bs, bm, hdct, sn, sub, ab, col, dd, k0, k1, k2, k3, k5, newId, hC, T.hasType FB.hasBase⟩⟩
theorem OwnI.cat {K : PySem.W.Frag} {mg : Str → Option Value} {x : Str} {D fI : Addr} (O : OwnI K mg x D fI) : Cat K mg x D := ⟨O.nm, fun h X => by
  obtain ⟨R, newId, initId, bmB, FB, hR, o, ho, q⟩ := O.ex
  obtain ⟨N, nm, qn, bs, hdct, sn, sub, ab, col, dd, k0, k1, k2, k3, k5, hC, T⟩ := exi_of_in X hR ho q
  exact ⟨nm, qn, N, bs, _, hdct, sn, sub, ab, col, dd, k0, k1, k2, k3, k5, newId, hC, T.hasType FB.hasBase⟩⟩

/-! ### tracked, forgotten -/
theorem Inv.trackX {X : Cx} {pins : List (Addr × Obj)} {σ : St} {H : Hp} {s : Shared} {x : Addr} {φ : Heap → Prop} (I : Inv X pins σ H s) (a : Ap X pins H x) (ho : ∃ o, s.heap.get? x = some o) (hφ : φ s.heap) (hst : ∀ h1 h2 : Heap, φ h1 → (∀ o, h1.get? x = some o → h2.get? x = some o) → φ h2) : Inv X pins σ (upd H x (.ext φ)) s := by
  refine ⟨I.ok, I.os, I.bare, ⟨I.base.keep, I.base.slot, fun b ob e n hz => ?_, I.base.there, fun b xs e => ?_, fun b ob u e => ?_, fun b ps e => ?_⟩, I.loc, I.cell, ?_, fun y c e => ?_, fun p hp => ?_, fun b u e => ?_, I.len⟩
  · rw [upd_ne (fun z => by rw [z, a.s0] at e; cases e)]; exact I.base.free b ob e n hz
  · have := I.base.tups b xs e; rw [upd_ne (ne_of_none this a.free)]; exact this
  · have := I.base.frzs b ob u e; rw [upd_ne (ne_of_none this a.free)]; exact this
  · obtain ⟨more, q⟩ := I.base.tbls b ps e; exact ⟨more, by rw [upd_ne (ne_of_none q a.free)]; exact q⟩
  · rw [upd_ne (Ne.symm a.loc)]; exact I.free
  · rw [upd_ne (a.cel y c e)]; exact I.freeC y c e
  · obtain ⟨q1, q2, q3⟩ := I.pin p hp
    exact ⟨q1, by rw [upd_ne (a.pin p hp)]; exact q2, q3⟩
  · by_cases hb : b = x
    · subst hb
      rw [upd_same] at e
      cases e
      exact ⟨hφ, ho, hst⟩
    · rw [upd_ne hb] at e
      exact (I.hok b u e).stay (fun c v _ q => q) (fun c q => by rw [upd_ne (ne_of_none q a.free)]; exact q) fun c xs q => by rw [upd_ne (ne_of_none q a.free)]; exact q
def hpDrop (H : Hp) (x : Addr) : Hp := fun b => if b = x then none else H b
theorem drop_ne {H : Hp} {x b : Addr} (h : b ≠ x) : hpDrop H x b = H b := if_neg h
theorem drop_same {H : Hp} {x : Addr} : hpDrop H x x = none := if_pos rfl
theorem Inv.drop {X : Cx} {pins : List (Addr × Obj)} {σ : St} {H : Hp} {s : Shared} {x : Addr} {φ : Heap → Prop} (I : Inv X pins σ H s) (hx : H x = some (.ext φ)) : Inv X pins σ (hpDrop H x) s := by
  have none_ : ∀ b, H b = none → hpDrop H x b = none := fun b h => by
    unfold hpDrop
    split
    · rfl
    · exact h
  have kp : ∀ b u, H b = some u → (∀ ψ, u ≠ .ext ψ) → hpDrop H x b = some u := fun b u h n => by
    rw [drop_ne fun e => by subst e; rw [hx] at h; exact n φ (Option.some.inj h).symm]; exact h
  refine ⟨I.ok, I.os, I.bare, ⟨I.base.keep, I.base.slot, fun b ob e n hz => none_ b (I.base.free b ob e n hz), I.base.there, fun b xs e => kp b _ (I.base.tups b xs e) (by intro ψ z; cases z), fun b ob u e => kp b _ (I.base.frzs b ob u e) (by intro ψ z; cases z), fun b ps e => ?_⟩, I.loc, I.cell, none_ _ I.free, fun y c e => none_ _ (I.freeC y c e), fun p hp => ?_, fun b u e => ?_, I.len⟩
  · obtain ⟨more, q⟩ := I.base.tbls b ps e
    exact ⟨more, kp b _ q (by intro ψ z; cases z)⟩
  · obtain ⟨q1, q2, q3⟩ := I.pin p hp
    exact ⟨q1, none_ _ q2, q3⟩
  · have hb : b ≠ x := fun z => by rw [z, drop_same] at e; cases e
    rw [drop_ne hb] at e
    exact (I.hok b u e).stay (fun c v _ q => q) (fun c q => kp c _ q (by intro ψ z; cases z)) fun c xs q => kp c _ q (by intro ψ z; cases z)

/-! ### a field is stored while the exception is made -/
/-- the dict of an exception -/
def isXd (dx : Addr) (fs : List (Str × V)) : HO := .ext fun h => ∃ mA, h.Ns1 dx mA ∧ (∀ f, RelO (fs.lookup f) (mA f)) ∧ PySem.Within mA (fs.map (·.1))
def sXFld (K : PySem.W.Frag) (ta tv : TE) (f : Str) : TS := fun D σ H => tv σ H fun y H1 => ta σ H1 fun x H2 => ∃ a C dd, x = .ref a ∧ H2 a = some (isN a C dd) ∧ PySem.XCls K C ∧ NoAttr K C f ∧
  ((dd = none ∧ ∀ dx, H2 dx = none → dx ≠ a → D.nx σ (upd (upd H2 dx (isXd dx [(f, y)])) a (isN a C (some dx)))) ∨ ∃ dx fs, dd = some dx ∧ H2 dx = some (isXd dx fs) ∧ fs.length < 1000 ∧ D.nx σ (upd H2 dx (isXd dx (putF f y fs))))
/-- a field is read -/
def tXFld (K : PySem.W.Frag) (ta : TE) (f : Str) : TE := fun σ H Q => ta σ H fun x H1 => ∃ a C dx fs v, x = .ref a ∧ H1 a = some (isD a C (some dx)) ∧ H1 dx = some (isXd dx fs) ∧ PySem.XCls K C ∧ PySem.W.hasDictIn K C = true ∧ NoAttr K C f ∧ fs.lookup f = some v ∧ Q v H1
end L2

end
section
/-! raise C(..) where C has its own __init__; try with several clauses -/
set_option Elab.async false
set_option linter.all false
set_option maxRecDepth 100000
namespace PySem
open PySem PySem.Spec PySem.Calls PyProof.Rows
section
variable {M : Model} {A : Around} {E : Value → Shared → Prop}
variable {nm q : Str} {D C N : Addr} {bs bm : List Value} {hdct : Bool} {sn : List Str} {sub : List Value} {ab : Bool} {col : Option Bool} {dd : Option Addr} {k0 k1 k2 k3 k5 : Option Value} {newId : String}
theorem wpAny_excMatches_b {h : Heap} {g : Array GenState} {d : Drawn} {t : Nat} {os : OsState} {e : Addr} {oe : Obj} {b : Bool} {Q : Bool → Shared → Prop}
    (hC : h.get? D = some (excClassObj nm q D N bs bm hdct sn sub ab col dd k0 k1 k2 k3 k5 newId)) (he : h.get? e = some oe) (hcls : oe.cls = .ref C) (hbase : bm.contains (.type "BaseException") = true)
    (L : PySem.W.Looks M h (isSubtype (.ref C) (.ref D)) b) (hq : Q b ⟨h, g, d, t, os⟩) : wpAny M A (excMatches (.ref e) (.ref D)) Q E ⟨h, g, d, t, os⟩ := by
  have hcB : (Value.ref D :: bm).contains (.type "BaseException") = true := by rw [List.contains_cons, hbase, Bool.or_true]
  have f := tc_notTuple
  unfold PySem.W.Looks at L
  unfold excMatches
  cases b <;> (repeat (first | (with_reducible refine wpAny_loadPart_at he ?_; rw [hcls]) | with_reducible refine wpAny_loadPart_at hC ?_ | (with_reducible refine wpAny_isSubtype_exc hC ?_; rw [hcB]) | (with_reducible refine L _ _ _ _ (fun _ _ z => z) ?_) | wp_step)) <;> exact hq
end
end PySem
namespace L2
open PySem PySem.Spec PyProof.Rows
def tRaiseI (C : Addr) (sp : Sp) (E : XK) (t : TA) : TS := fun D σ H => t σ H fun vs H1 => vs.length ≤ sizeLine ∧ ∀ x, H1 x = none → sp (.ref x :: vs) (upd H1 x (isN x C none)) (fun v H2 => v = .non ∧ ∃ dd, H2 x = some (isN x C dd) ∧ E (.ref C) dd (hpDrop H2 x)) E0
/-! ### stations in a frame that stays -/
theorem chaseD {X : Cx} {pins : List (Addr × Obj)} {σ : St} {H : Hp} {s : Shared} {x T C : Addr} {dd : Option Addr} {a0 fl : Value} {h2 : Heap} (I : Inv X pins σ H s) (hex : X.ex = []) (ax : Ap X pins H x) (aT : Ap X pins H T)
    (st : StnD (PySem.W.hideAll s.heap (x :: ([T] ++ frs X.stack))) X.stack x (.ref C) a0 fl dd s.heap h2) : Inv X pins σ H { s with heap := h2 } ∧ ∃ T2, Ap X pins H T2 ∧ TrD h2 x T2 C dd a0 fl := by
  obtain ⟨k1, k2, T2, aT2, tr⟩ := stn (more := [T]) I hex ax (fun b hb => by rw [List.mem_singleton.mp hb]; exact aT) st
  refine ⟨I.stepX (ch := [x, T]) (t' := s.toks) (fun b hb => ?_) (fun b o hb hc e => k1 b o hb (fun z => hc (by simp [z])) (fun z => hc (by simp at z; simp [z])) e) k2, T2, aT2, tr⟩
  have : b = x ∨ b = T := by simpa using hb
  rcases this with rfl | rfl
  · exact ⟨ax.s0, ax.loc, ax.cel, ax.pin, ax.free⟩
  · exact ⟨aT.s0, aT.loc, aT.cel, aT.pin, aT.free⟩
section
variable {X : Cx} {M : Model} {A : Around} {Ee : Value → Shared → Prop} {pins : List (Addr × Obj)} {σ : St} {H : Hp} {s : Shared} {x T C : Addr} {dd : Option Addr} {a0 fl : Value} {Q : Unit → Shared → Prop}
theorem frames_hid {h : Heap} {as : List Addr} (hf : h.FunFrames X.base X.stack) (hs : ∀ b ∈ frs X.stack, b ∈ as) : h.FunFrames (PySem.W.hideAll h as) X.stack := PySem.W.funFrames_hide hf fun env hen a ha => hs a (List.mem_filterMap.mpr ⟨env, hen, ha⟩)
theorem flightD (I : Inv X pins σ H s) (hex : X.ex = []) (ax : Ap X pins H x) (aT : Ap X pins H T) (tr : TrD s.heap x T C dd a0 fl)
    (k : ∀ h2 T2, Inv X pins σ H { s with heap := h2 } → Ap X pins H T2 → TrD h2 x T2 C dd a0 .none → Q () { s with heap := h2 }) : wpAny M A (setFlight (.ref x) none) Q Ee s := by
  refine setFlightD (base := PySem.W.hideAll s.heap (x :: ([T] ++ frs X.stack))) (l := X.stack) (cls := .ref C) (a0 := a0) (dd := dd) (fl := fl) (fun b o q => PySem.W.of_hideAll _ q) (frames_hid I.stack fun b hb => List.mem_cons_of_mem _ (List.mem_append_right _ hb)) (tr.to (PySem.W.hideAll_none _ (by simp))) fun h2 st _ => ?_
  obtain ⟨I2, T2, aT2, tr2⟩ := chaseD I hex ax aT st
  exact k h2 T2 I2 aT2 tr2
theorem landD (I : Inv X pins σ H s) (hex : X.ex = []) (hfr : A.frames = some X.stack) (hst : X.stack = X.env :: X.outer) (hf : X.env.frame = some X.env.locals) (ax : Ap X pins H x) (aT : Ap X pins H T) (tr : TrD s.heap x T C dd a0 .none)
    (k : ∀ h2 T2, Inv X pins σ H { s with heap := h2 } → Ap X pins H T2 → TrD h2 x T2 C dd a0 .none → Q () { s with heap := h2 }) :
    wpAny M A (noteFrame (.ref x) X.env) (fun _ s2 => wpAny M A (setFlight (.ref x) none) Q Ee s2) Ee s := by
  refine noteFrameD (base := PySem.W.hideAll s.heap (x :: ([T] ++ frs X.stack))) (outer := X.outer) (L := X.env.locals) (cls := .ref C) (a0 := a0) (dd := dd) (by rw [hfr, hst]) (hst ▸ frames_hid I.stack fun b hb => List.mem_cons_of_mem _ (List.mem_append_right _ hb)) hf (tr.to (PySem.W.hideAll_none _ (by simp)))
    (fun b o q => PySem.W.of_hideAll _ q) (PySem.W.hideAll_none _ (List.mem_cons_self ..)) fun h1 st => ?_
  rw [← hst] at st
  obtain ⟨I1, T1, aT1, tr1⟩ := chaseD I hex ax aT st
  exact flightD (s := { s with heap := h1 }) I1 hex ax aT1 tr1 fun h2 T2 I2 aT2 tr2 => k h2 T2 I2 aT2 tr2
end
/-! ### try: several clauses, with names or without -/
structure Clause where
  D : Addr
  i : Option Nat
  th : TS
def endsU (i : Nat) (D : Ends) : Ends := { D with nx := fun σ' H2 => D.nx (σ'.set i none) H2, bk := fun σ' H2 => D.bk (σ'.set i none) H2, ct := fun σ' H2 => D.ct (σ'.set i none) H2 }
/-- the suite of a clause that is met -/
def tSuite (X : Cx) (c : Clause) (C : Addr) (dd : Option Addr) (D : Ends) (H : Hp) : Prop := match c.i with
  | some i => ∀ x, H x = none → c.th (endsU i D) ((List.replicate X.N.length none).set i (some (.ref x))) (upd H x (isD x C dd))
  | none => c.th D (List.replicate X.N.length none) H
def tCls (X : Cx) (C : Addr) (dd : Option Addr) (D : Ends) (H : Hp) : List Clause → Prop
  | [] => False
  | c :: r => (PySem.W.mroIn X.K C (.ref c.D) = some true ∧ tSuite X c C dd D H) ∨ (PySem.W.mroIn X.K C (.ref c.D) = some false ∧ tCls X C dd D H r)
def HS (X : Cx) (hs : List ExceptHandler) (cs : List Clause) : Prop := ∀ (pins : List (Addr × Obj)) (s : Shared) (σ : St) (H : Hp) (x T C : Addr) (dd : Option Addr) (a0 : Value) (D : Ends), Inv X pins σ H s → Ap X pins H x → Ap X pins H T → TrD s.heap x T C dd a0 .none → tCls X C dd D H cs →
  wpAny (model X.prog X.w) X.A (handleBy (.ref x) X.env hs) (SP X pins D) X.xe s
theorem hs_nil {X : Cx} : HS X [] [] := fun _ _ _ _ _ _ _ _ _ _ _ _ _ _ h => False.elim h
theorem hs_as {X : Cx} {D : Addr} {cn n : Str} {i : Nat} {np hpos : Pos} {b0 : Stmt} {suite : List Stmt} {rest : List ExceptHandler} {cs : List Clause} {th : TS} (O : Cat X.K X.mg cn D) (hex : X.ex = []) (hg : Gl X cn) (hN : X.N.Nodup)
    (hi : X.N[i]? = some n) (hk : X.env.scope.names.lookup n = some .local) (hs : ∀ x, PSs (X.mk1 x) (b0 :: suite) th) (hr : HS X rest cs) (hd : (cn == ("__debug__" : Str)) = false := by decide) :
    HS X (.ExceptHandler (some (.Name cn np)) (some n) (b0 :: suite) hpos :: rest) (⟨D, some i, th⟩ :: cs) := by
  intro pins s σ H x T C dd a0 DD I ax aT tr h
  obtain ⟨nm, q, N, bs, bm, hdct, sn, sub, ab, col, cd, k0, k1, k2, k3, k5, newId, hC, hbase⟩ := O.ob _ I.kIn
  refine wpAny_handleBy_cons (codeAny_handlers_test (ld_glob (X := X.mk1 x) (I.mk1 x) hg O.nm ?_ hd)) (by intro q; cases q)
  obtain ⟨oe, vs, oT, ts, p1, p2, p3⟩ := id tr
  rcases h with ⟨hm, hsu⟩ | ⟨hm, hre⟩
  · refine wpAny_excMatches_b hC p1 p2.1 hbase (PySem.W.looks_mroIn I.kIn hm) (codeAny_handlers_suite_as ?_)
    refine flightD I hex ax aT tr fun h5 T5 I5 aT5 tr5 => ?_
    obtain ⟨oe5, vs5, oT5, ts5, r1, r2, r3, _⟩ := id tr5
    have I6 := (I5.trackX (φ := fun h => ∃ o vs, h.get? x = some o ∧ o.cls = .ref C ∧ o.dict = dd ∧ o.data = .fields vs) ax ⟨oe5, r1⟩ ⟨oe5, vs5, r1, r2.1, r2.2.1, r3⟩ (fun h1 h2 ⟨o, vs, q1, q2⟩ k => ⟨o, vs, k _ q1, q2⟩)).blank
    refine store_ok (X := X.mk1 x) (v := .ref x) (I6.mk1 x) hN hi (.inl hk) rfl (fun s7 I7 => ?_) (.inr hk)
    refine wpAny_mono (hs x pins s7 _ _ _ I7 (hsu x ax.free)) (fun f s8 h8 => ?_) fun _ _ z => False.elim z
    cases f with
    | next =>
      obtain ⟨σ8, H8, J, z⟩ := h8
      exact del_ok (J.unmk1 I.ok) hN hi hk fun s9 J9 => ⟨_, H8, J9, z⟩
    | brk =>
      obtain ⟨σ8, H8, J, z⟩ := h8
      exact del_ok (J.unmk1 I.ok) hN hi hk fun s9 J9 => ⟨_, H8, J9, z⟩
    | cont =>
      obtain ⟨σ8, H8, J, z⟩ := h8
      exact del_ok (J.unmk1 I.ok) hN hi hk fun s9 J9 => ⟨_, H8, J9, z⟩
    | ret u =>
      obtain ⟨v, σ8, H8, J, r, z⟩ := h8
      exact del_ok (J.unmk1 I.ok) hN hi hk fun s9 J9 => ⟨v, _, H8, J9, r, z⟩
  · refine wpAny_excMatches_b hC p1 p2.1 hbase (PySem.W.looks_mroIn I.kIn hm) ?_
    exact hr pins s σ H x T C dd a0 DD I ax aT tr hre
/-- try: E: what the body may raise; all of it is met -/
def tTryC (X : Cx) (cs : List Clause) (tb : XK → TS) : TS := fun D σ H => ∃ E : XK, tb E D σ H ∧ ∀ (c : Value) (dd : Option Addr) (H' : Hp), E c dd H' → ∃ C, c = .ref C ∧ tCls X C dd D H' cs
theorem ps_tryC {X : Cx} {pos : Pos} {body : List Stmt} {hs : List ExceptHandler} {cs : List Clause} {tb : XK → TS} (hex : X.ex = []) (hst : X.stack = X.env :: X.outer ∧ X.env.frame = some X.env.locals) (hne : hs ≠ [])
    (hb : ∀ (W : Value → Shared → Prop) (pn : List (Addr × Obj)) (E : XK), Passes (CX3 X.prog X.w) (X.tr1 W pn) E → PSs (X.tr1 W pn) body (tb E)) (hh : HS X hs cs) :
    PS X (.Try body hs [] [] pos) (tTryC X cs tb) := by
  intro pins s σ H D I h
  obtain ⟨E, hbody, hm⟩ := h
  cases hs with
  | nil => exact absurd rfl hne
  | cons hd0 rest =>
  refine wpAny_Try_except ?_
  refine wpAny_mono (hb _ (X.pn ++ pins) E ?_ [] s σ H D (I.tr1 _) hbody) (fun f s1 hq => ?_) (fun e s1 he => he)
  · intro pins' σ' H1 s1 e s' I1 hc
    obtain ⟨x, T, C, dd, a0, H', rfl, os, bare, un, hok, hxH, hTH, x0, T0, tr, qE⟩ := hc
    have I2 : Inv X pins σ' H1 s1 := I1.untr1
    obtain ⟨C', hcC, hcl⟩ := hm _ dd H' qE
    obtain rfl : C = C' := Value.ref.inj hcC
    obtain ⟨a1, a2, a3, a4, a5⟩ := I2.apart hex x0
    obtain ⟨t1, t2, t3, t4, t5⟩ := I2.apart hex T0
    obtain ⟨h3, g, d, t, os'⟩ := s'
    obtain rfl : os' = s1.os := os
    have I3 := I2.call (h' := h3) (g' := g) (d' := d) (t' := t) (ch := []) un hok bare (fun b z => absurd z (by simp))
    have ax : Ap X pins H' x := ⟨a1, a2, a3, a4, a5, hxH⟩
    refine landD I3 hex I2.ok.frames hst.1 hst.2 ax ⟨t1, t2, t3, t4, t5, hTH⟩ tr fun h4 T4 I4 aT4 tr4 => ?_
    exact hh pins _ σ' H' x T4 C dd a0 D I4 ax aT4 tr4 hcl
  · cases f with
    | next =>
      obtain ⟨σ8, H8, J, z⟩ := hq
      exact pss_nil pins s1 σ8 H8 D J.untr1 z
    | brk =>
      obtain ⟨σ8, H8, J, z⟩ := hq
      exact ⟨σ8, H8, J.untr1, z⟩
    | cont =>
      obtain ⟨σ8, H8, J, z⟩ := hq
      exact ⟨σ8, H8, J.untr1, z⟩
    | ret u =>
      obtain ⟨v, σ8, H8, J, r, z⟩ := hq
      exact ⟨v, σ8, H8, J.untr1, r, z⟩
end L2

end
section
/-! try with several clauses, the suites still know the names -/
set_option Elab.async false
set_option linter.all false
set_option maxRecDepth 100000
namespace L2
open PySem PySem.Spec PyProof.Rows
/-! ### try: several clauses, with names or without -/
/-- the suite of a clause that is met -/
def tSuiteS (c : Clause) (σ : St) (C : Addr) (dd : Option Addr) (D : Ends) (H : Hp) : Prop := match c.i with
  | some i => ∀ x, H x = none → c.th (endsU i D) (σ.set i (some (.ref x))) (upd H x (isD x C dd))
  | none => c.th D σ H
def tClsS (K : PySem.W.Frag) (σ : St) (C : Addr) (dd : Option Addr) (D : Ends) (H : Hp) : List Clause → Prop
  | [] => False
  | c :: r => (PySem.W.mroIn K C (.ref c.D) = some true ∧ tSuiteS c σ C dd D H) ∨ (PySem.W.mroIn K C (.ref c.D) = some false ∧ tClsS K σ C dd D H r)
def HSS (X : Cx) (hs : List ExceptHandler) (cs : List Clause) : Prop := ∀ (pins : List (Addr × Obj)) (s : Shared) (σ : St) (H : Hp) (x T C : Addr) (dd : Option Addr) (a0 : Value) (D : Ends), Inv X pins σ H s → Ap X pins H x → Ap X pins H T → TrD s.heap x T C dd a0 .none → tClsS X.K σ C dd D H cs →
  wpAny (model X.prog X.w) X.A (handleBy (.ref x) X.env hs) (SP X pins D) X.xe s
/-- try: E: what the body may raise; all of it is met -/
def tTryCS (K : PySem.W.Frag) (cs : List Clause) (tb : (St → XK) → TS) : TS := fun D σ H => ∃ E : St → XK, tb E D σ H ∧ ∀ (σ' : St) (c : Value) (dd : Option Addr) (H' : Hp), E σ' c dd H' → ∃ C, c = .ref C ∧ tClsS K σ' C dd D H' cs
/-! ### isinstance of an exception in hand -/
def rIsiD (K : PySem.W.Frag) : List V → Hp → VK → Prop := fun vs H Q => ∃ x C dd c u b, vs = [.ref x, c] ∧ H x = some (isD x C dd) ∧ PySem.W.ExcCls K C ∧ RelV c u ∧ (∀ z, RelV c z → z = u) ∧ PySem.W.kitOne K (.ref C) u = some b ∧ Q (.bl b) H
theorem call_isiQ {X : Cx} {K : PySem.W.Frag} (hK : X.K = K) : CallR X (.builtin "isinstance") (rIsiD K) := by
  subst hK
  intro pins s σ H vs us Q I r h
  obtain ⟨x, C, dd, c, u, b, rfl, hx, hC, rc, hu, hk, q⟩ := h
  cases r with
  | cons r1 r2 =>
    cases r2 with
    | cons r2 r3 =>
      cases r3
      obtain rfl := hu _ r2
      have fin : ∀ tk, EP X pins σ Q (.bool b) { s with toks := tk } := fun tk => ⟨.bl b, H, I.tok tk, rfl, q⟩
      cases r1
      obtain ⟨⟨o, vs, h1, h2, _⟩, _⟩ := (show ObjOk X.prog X.w H s.heap x (isD x C dd) from I.hok _ _ hx)
      exact PySem.W.kia_one (PySem.W.kitx_exc hC) I.kIn ⟨o, h1, h2⟩ hk (by intro e; cases e) fin
/-- a def that may raise, called where it does not -/
theorem pass3 {P : Program} {w : World} {X : Cx} : Passes (CX3 P w) X E0 := fun _ _ _ _ _ _ _ h => by
  obtain ⟨_, _, _, _, _, _, _, _, _, _, _, _, _, _, _, _, q⟩ := h
  exact q.elim
end L2

end
section
/-! [*l, ..] of a list -/
set_option Elab.async false
set_option linter.all false
set_option maxRecDepth 100000
namespace L2
open PySem PySem.Spec PyProof.Rows
def tStarL (K : PySem.W.Frag) (ta : TE) (tr : TA) : TA := fun σ H Q => ta σ H fun x H1 => ∃ a xs, x = .ref a ∧ SqL K H1 a xs ∧ tr σ H1 fun ys H2 => Q (xs ++ ys) H2
end L2

end
section
/-! sorted of a tuple of pairs of ints -/
set_option Elab.async false
set_option linter.all false
set_option maxRecDepth 100000
namespace SrtT
open PySem PySem.Spec PyProof.Rows PyProof.Rows.G PySem.W
section
variable {prog : Program} {w : World} {A : Around} {E : Value → Shared → Prop} {s : Shared}
end
end SrtT
namespace L2
open PySem PySem.Spec PyProof.Rows
def rSortedPT (K : PySem.W.Frag) : List V → Hp → VK → Prop := fun vs H Q => ∃ (a : Addr) (xs : List V), vs = [V.ref a] ∧ SqT K H a xs ∧ (∀ v ∈ xs, IsP H v) ∧
  ∀ (ys : List V) (p : Addr), ys.Perm xs → (ys.map (gP H)).Pairwise le2 → H p = none → Q (.ref p) (upd H p (.lst ys))
end L2

end
section
set_option Elab.async false
set_option linter.all false
set_option maxRecDepth 100000
namespace L2
open PySem PySem.Spec PyProof.Rows
/-- isinstance of an exception with a tuple of classes -/
def rIsiTD (K : PySem.W.Frag) : List V → Hp → VK → Prop := fun vs H Q => ∃ x C dd p cs us b, vs = [.ref x, .ref p] ∧ H x = some (isD x C dd) ∧ H p = some (.tup cs) ∧ PySem.W.ExcCls K C ∧ (∀ zs, Vals cs zs → zs = us) ∧ PySem.W.kitAny K (.ref C) us = some b ∧ Q (.bl b) H
theorem call_isiTQ {X : Cx} {K : PySem.W.Frag} (hK : X.K = K) : CallR X (.builtin "isinstance") (rIsiTD K) := by
  subst hK
  intro pins s σ H vs us Q I r h
  obtain ⟨x, C, dd, p, cs, zs, b, rfl, hx, hp, hC, hz, hk, q⟩ := h
  cases r with
  | cons r1 r2 =>
    cases r2 with
    | cons r2 r3 =>
      cases r3
      cases r2
      obtain ⟨_, its, rv, ⟨cl, dd, da, sl⟩, e, hc, n, hd⟩ := I.hok _ _ hp
      obtain rfl := hz _ rv
      obtain rfl : cl = .type "tuple" := hc
      obtain rfl : da = .seq its.toArray n := hd.1
      have fin : ∀ tk, EP X pins σ Q (.bool b) { s with toks := tk } := fun tk => ⟨.bl b, H, I.tok tk, rfl, q⟩
      cases r1
      obtain ⟨⟨o, vs, h1, h2, _⟩, _⟩ := (show ObjOk X.prog X.w H s.heap x (isD x C _) from I.hok _ _ hx)
      exact PySem.W.kia_tup (PySem.W.kitx_exc hC) I.kIn ⟨o, h1, h2⟩ e hk (by intro e; cases e) fin
end L2

end
section
/-! long displays: judgements that do not unfold, up to the block -/
set_option Elab.async false
set_option linter.all false
set_option maxRecDepth 100000
namespace L2
open PySem PySem.Spec PyProof.Rows
structure PE1 (X : Cx) (e : PySem.Expr) (t : TE) : Prop where
  u : PE X e t
structure PS1 (X : Cx) (st : Stmt) (t : TS) : Prop where
  u : PS X st t
structure PSs1 (X : Cx) (st : List Stmt) (t : TS) : Prop where
  u : PSs X st t
section
variable {X : Cx} {e a b c : PySem.Expr} {te ta tb : TE} {es : List PySem.Expr} {t : TA} {pos : Pos}
end
end L2

end
section
set_option Elab.async false
set_option linter.all false
set_option maxRecDepth 100000
namespace Wb
open PySem L2
def top (i : Nat) : Stmt := PySem.Challenge.pw_closedrings_k46_desk_deeds.main.body.getD i (.Pass ⟨0, 0, 0, 0⟩)
/-- the j-th statement of a class's body -/
def inCls (s : Stmt) (j : Nat) : Stmt := match s with
  | .ClassDef _ _ _ body _ _ _ _ _ _ _ => body.getD j (.Pass ⟨0, 0, 0, 0⟩)
  | s => s
/-- the names of the built-ins are the built-ins' own -/
structure Bl (mg : Str → Option Value) : Prop where
  len : mg "len" = none
  int : mg "int" = none
  bool : mg "bool" = none
  range : mg "range" = none
  tuple : mg "tuple" = none
  repr : mg "repr" = none
  enumerate : mg "enumerate" = none
  sorted : mg "sorted" = none
  list : mg "list" = none
  isinstance : mg "isinstance" = none
  min : mg "min" = none
  max : mg "max" = none
  all : mg "all" = none
  any : mg "any" = none
  zip : mg "zip" = none
  reversed : mg "reversed" = none
  set : mg "set" = none
  ValueError : mg "ValueError" = none
abbrev sIsInt : Stmt := top 16
abbrev sIsLT : Stmt := top 17
abbrev sIsMany : Stmt := top 22
abbrev sIsPl : Stmt := top 23
abbrev sTwo : Stmt := top 24
abbrev sLess : Stmt := top 25
abbrev sPairOf : Stmt := top 27
abbrev sMade : Stmt := top 28
abbrev sTieOf : Stmt := top 33
abbrev sWithT : Stmt := top 34
abbrev sWoutT : Stmt := top 35
abbrev sDkI : Stmt := inCls (top 87) 0
abbrev sDkW : Stmt := inCls (top 87) 1
abbrev sDkP : Stmt := inCls (top 87) 2
abbrev sDkT : Stmt := inCls (top 87) 3
abbrev sDkB : Stmt := inCls (top 87) 4
abbrev sLdone : Stmt := top 92
abbrev sLdue : Stmt := top 93
abbrev sLaft : Stmt := top 94
abbrev sLgoes : Stmt := top 95
abbrev sLback : Stmt := top 96
abbrev sLaw : Stmt := top 97
abbrev sCellAt : Stmt := top 89
abbrev sStream : Stmt := top 90
abbrev sNext : Stmt := top 91
set_option maxHeartbeats 4000000 in
structure Fs (K : PySem.W.Frag) (mg : Str → Option Value) where
  aIsInt : Addr
  dIsInt : FuncData
  FIsInt : Fun K "is_int" "is_int" sIsInt aIsInt dIsInt
  mIsInt : mg "is_int" = some (.ref aIsInt)
  bIsInt : Binds K dIsInt ["thing"] []
  aIsLT : Addr
  dIsLT : FuncData
  FIsLT : Fun K "is_list_or_tuple" "is_list_or_tuple" sIsLT aIsLT dIsLT
  mIsLT : mg "is_list_or_tuple" = some (.ref aIsLT)
  bIsLT : Binds K dIsLT ["thing"] []
  aIsMany : Addr
  dIsMany : FuncData
  FIsMany : Fun K "is_many" "is_many" sIsMany aIsMany dIsMany
  mIsMany : mg "is_many" = some (.ref aIsMany)
  bIsMany : Binds K dIsMany ["thing"] []
  aIsPl : Addr
  dIsPl : FuncData
  FIsPl : Fun K "is_place" "is_place" sIsPl aIsPl dIsPl
  mIsPl : mg "is_place" = some (.ref aIsPl)
  bIsPl : Binds K dIsPl ["many", "thing"] []
  aTwo : Addr
  dTwo : FuncData
  FTwo : Fun K "are_two_places" "are_two_places" sTwo aTwo dTwo
  mTwo : mg "are_two_places" = some (.ref aTwo)
  bTwo : Binds K dTwo ["many", "a", "b"] []
  aLess : Addr
  dLess : FuncData
  FLess : Fun K "lesser_first" "lesser_first" sLess aLess dLess
  mLess : mg "lesser_first" = some (.ref aLess)
  bLess : Binds K dLess ["a", "b"] []
  aPairOf : Addr
  dPairOf : FuncData
  FPairOf : Fun K "pair_of" "pair_of" sPairOf aPairOf dPairOf
  mPairOf : mg "pair_of" = some (.ref aPairOf)
  bPairOf : Binds K dPairOf ["many", "thing"] []
  aMade : Addr
  dMade : FuncData
  FMade : Fun K "made_web" "made_web" sMade aMade dMade
  mMade : mg "made_web" = some (.ref aMade)
  bMade : Binds K dMade ["many", "ties"] []
  aTieOf : Addr
  dTieOf : FuncData
  FTieOf : Fun K "tie_of" "tie_of" sTieOf aTieOf dTieOf
  mTieOf : mg "tie_of" = some (.ref aTieOf)
  bTieOf : Binds K dTieOf ["many", "a", "b"] []
  aWithT : Addr
  dWithT : FuncData
  FWithT : Fun K "with_tie" "with_tie" sWithT aWithT dWithT
  mWithT : mg "with_tie" = some (.ref aWithT)
  bWithT : Binds K dWithT ["web", "a", "b"] []
  aWoutT : Addr
  dWoutT : FuncData
  FWoutT : Fun K "without_tie" "without_tie" sWoutT aWoutT dWoutT
  mWoutT : mg "without_tie" = some (.ref aWoutT)
  bWoutT : Binds K dWoutT ["web", "a", "b"] []
  aDkI : Addr
  dDkI : FuncData
  FDkI : Fun K "__init__" "Desk.__init__" sDkI aDkI dDkI
  bDkI : Binds K dDkI ["self", "many"] []
  aDkW : Addr
  dDkW : FuncData
  FDkW : Fun K "web" "Desk.web" sDkW aDkW dDkW
  bDkW : Binds K dDkW ["self"] []
  aDkP : Addr
  dDkP : FuncData
  FDkP : Fun K "put" "Desk.put" sDkP aDkP dDkP
  bDkP : Binds K dDkP ["self", "a", "b"] []
  aDkT : Addr
  dDkT : FuncData
  FDkT : Fun K "take" "Desk.take" sDkT aDkT dDkT
  bDkT : Binds K dDkT ["self", "a", "b"] []
  aDkB : Addr
  dDkB : FuncData
  FDkB : Fun K "back" "Desk.back" sDkB aDkB dDkB
  bDkB : Binds K dDkB ["self"] []
  aLdone : Addr
  dLdone : FuncData
  FLdone : Fun K "_law_done" "_law_done" sLdone aLdone dLdone
  mLdone : mg "_law_done" = some (.ref aLdone)
  bLdone : Binds K dLdone ["_law_desk", "_law_word", "_law_a", "_law_b"] []
  aLdue : Addr
  dLdue : FuncData
  FLdue : Fun K "_law_due" "_law_due" sLdue aLdue dLdue
  mLdue : mg "_law_due" = some (.ref aLdue)
  bLdue : Binds K dLdue ["_law_ties", "_law_past", "_law_word", "_law_tie"] []
  aLaft : Addr
  dLaft : FuncData
  FLaft : Fun K "_law_after" "_law_after" sLaft aLaft dLaft
  mLaft : mg "_law_after" = some (.ref aLaft)
  bLaft : Binds K dLaft ["_law_ties", "_law_word", "_law_tie"] []
  aLgoes : Addr
  dLgoes : FuncData
  FLgoes : Fun K "_law_goes" "_law_goes" sLgoes aLgoes dLgoes
  mLgoes : mg "_law_goes" = some (.ref aLgoes)
  bLgoes : Binds K dLgoes ["_law_xs", "_law_many"] []
  aLback : Addr
  dLback : FuncData
  FLback : Fun K "_law_all_back" "_law_all_back" sLback aLback dLback
  mLback : mg "_law_all_back" = some (.ref aLback)
  bLback : Binds K dLback ["_law_xs"] []
  aLaw : Addr
  dLaw : FuncData
  FLaw : Fun K "law" "law" sLaw aLaw dLaw
  mLaw : mg "law" = some (.ref aLaw)
  bLaw : Binds K dLaw ["_law_script"] []
  aCellAt : Addr
  dCellAt : FuncData
  FCellAt : Fun K "_law_cell_at" "_law_cell_at" sCellAt aCellAt dCellAt
  mCellAt : mg "_law_cell_at" = some (.ref aCellAt)
  bCellAt : Binds K dCellAt ["_law_script", "_law_k"] []
  aStream : Addr
  dStream : FuncData
  FStream : Fun K "_law_stream" "_law_stream" sStream aStream dStream
  mStream : mg "_law_stream" = some (.ref aStream)
  bStream : Binds K dStream ["_law_cell", "_law_many"] []
  aNext : Addr
  dNext : FuncData
  FNext : Fun K "_law_next" "_law_next" sNext aNext dNext
  mNext : mg "_law_next" = some (.ref aNext)
  bNext : Binds K dNext ["_law_xs", "_law_many"] []
  c_FEWEST_PLACES : ∃ t, mg "FEWEST_PLACES" = some (.int 3 t)
  c_MOST_PLACES : ∃ t, mg "MOST_PLACES" = some (.int 20 t)
  e_NoWeb : Addr
  o_NoWeb : Own K mg "NoWeb" e_NoWeb
  e_NoTie : Addr
  o_NoTie : Own K mg "NoTie" e_NoTie
  e_NothingBack : Addr
  o_NothingBack : Own K mg "NothingBack" e_NothingBack
  e_RingsError : Addr
  o_RingsError : Own K mg "RingsError" e_RingsError
  r_NoHeld : Addr
  h_NoHeld : mg "NoHeld" = some (.ref r_NoHeld)
  r_NoNumber : Addr
  h_NoNumber : mg "NoNumber" = some (.ref r_NoNumber)
  r_NoPut : Addr
  h_NoPut : mg "NoPut" = some (.ref r_NoPut)
  r_NoRing : Addr
  h_NoRing : mg "NoRing" = some (.ref r_NoRing)
  r_NoRow : Addr
  h_NoRow : mg "NoRow" = some (.ref r_NoRow)
  r_NoText : Addr
  h_NoText : mg "NoText" = some (.ref r_NoText)
  r_NoWay : Addr
  h_NoWay : mg "NoWay" = some (.ref r_NoWay)
  r_NotRich : Addr
  h_NotRich : mg "NotRich" = some (.ref r_NotRich)
  r_TooFew : Addr
  h_TooFew : mg "TooFew" = some (.ref r_TooFew)
  r_TooGreat : Addr
  h_TooGreat : mg "TooGreat" = some (.ref r_TooGreat)
  e_Desk : Addr
  h_Desk : mg "Desk" = some (.ref e_Desk)
  k_Desk : Cls K e_Desk
  M_Desk : Mk K e_Desk aDkI
  mt_Desk_web : Meth K e_Desk "web" aDkW
  mt_Desk_put : Meth K e_Desk "put" aDkP
  mt_Desk_take : Meth K e_Desk "take" aDkT
  mt_Desk_back : Meth K e_Desk "back" aDkB
  na_Desk_now : NoAttr K e_Desk "now"
  na_Desk_deeds : NoAttr K e_Desk "deeds"
  kv_NoTie : PySem.W.kitOne K (.ref e_NoTie) (.type "ValueError") = some true
  mi_NoTie : PySem.W.mroIn K e_NoTie (.ref e_RingsError) = some true
  a1_NoTie : PySem.W.kitAny K (.ref e_NoTie) [.ref r_NoHeld, .ref r_NoNumber, .ref r_NoPut, .ref r_NoRing, .ref r_NoRow, .ref r_NoText] = some false
  a2_NoTie : PySem.W.kitAny K (.ref e_NoTie) [.ref r_NoWay, .ref e_NoWeb, .ref r_NotRich, .ref r_TooFew, .ref r_TooGreat] = some false
  kv_NothingBack : PySem.W.kitOne K (.ref e_NothingBack) (.type "ValueError") = some true
  mi_NothingBack : PySem.W.mroIn K e_NothingBack (.ref e_RingsError) = some true
  a1_NothingBack : PySem.W.kitAny K (.ref e_NothingBack) [.ref r_NoHeld, .ref r_NoNumber, .ref r_NoPut, .ref r_NoRing, .ref r_NoRow, .ref r_NoText] = some false
  a2_NothingBack : PySem.W.kitAny K (.ref e_NothingBack) [.ref r_NoWay, .ref e_NoWeb, .ref r_NotRich, .ref r_TooFew, .ref r_TooGreat] = some false
  k_NoTie_NothingBack : PySem.W.kitOne K (.ref e_NoTie) (.ref e_NothingBack) = some false
  k_NothingBack_NoTie : PySem.W.kitOne K (.ref e_NothingBack) (.ref e_NoTie) = some false
  xc_NoTie : PySem.W.ExcCls K e_NoTie
  xc_NothingBack : PySem.W.ExcCls K e_NothingBack
theorem hu1_of {k : Nat} {A : Around} (r : Room k A) : A.units + 1 < cLine := by have := r.un; omega
end Wb

end
section
set_option Elab.async false
set_option linter.all false
set_option maxRecDepth 100000
namespace Wb
open PySem L2
section
variable {P : Program} {w : World} {K : PySem.W.Frag} {mg : Str → Option Value} {base : Heap}
/-! ### is_int, is_place -/
def spIsInt (K : PySem.W.Frag) : Sp := fun vs H Q _ => ∃ (x : V) (n : String), vs = [x] ∧ TyV K H x (.type n) ∧ Q (.bl (isI x)) H
abbrev nmIsInt : List Str := ["thing"]
theorem scIsInt : FnScope nmIsInt ["thing"] (defScope sIsInt) := ⟨rfl, rfl, rfl, by decide +kernel, rfl, by decide +kernel, by decide +kernel⟩
theorem ok_IsInt (U : Fs K mg) (T : Bl mg) : FnOk P w K mg base CX0 1 U.aIsInt U.dIsInt ["thing"] (spIsInt K) := by
  refine U.FIsInt.ok scIsInt (fun vs H Q E h => ?_) (fun cdv A outer s H vs Q E hr h => ?_)
  · obtain ⟨x, tn, rfl, _⟩ := h
    rfl
  · obtain ⟨x, tn, rfl, ht, q⟩ := h
    refine ⟨_, (pss_one (ps_ret (pe_and (pe_callB call_isi (by rfl) T.isinstance (by decide +kernel) (pa_cons (pv 0) (pa_cons (pe_bltn (v := .ty "int") (by rfl) T.int (by decide +kernel) rfl) pa_nil))) (pe_one (pe_not (pe_callB call_isi (by rfl) T.isinstance (by decide +kernel) (pa_cons (pv 0) (pa_cons (pe_bltn (v := .ty "bool") (by rfl) T.bool (by decide +kernel) rfl) pa_nil)))))))), ?_⟩
    have c1 : ∃ b1 b2, PySem.W.kitOne K (.type tn) (.type "int") = some b1 ∧ PySem.W.kitOne K (.type tn) (.type "bool") = some b2 ∧ (b1 && !b2) = isI x := by
      clear q
      cases ht <;> exact ⟨_, _, rfl, rfl, rfl⟩
    obtain ⟨b1, b2, k1, k2, e⟩ := c1
    refine ⟨_, rfl, x, _, .type tn, _, b1, rfl, ht, rfl, relTy _, k1, b1, rfl, ?_⟩
    cases b1 with
    | false => exact iteF (by rw [← e] at q; exact q)
    | true =>
      refine iteT ⟨_, rfl, x, _, .type tn, _, b2, rfl, ht, rfl, relTy _, k2, b2, rfl, ?_⟩
      rw [← e] at q
      exact q
def spIsPl (K : PySem.W.Frag) : Sp := fun vs H Q _ => ∃ (m : Int) (x : V) (n : String), vs = [.int m, x] ∧ TyV K H x (.type n) ∧ Q (.bl (isPl m x)) H
abbrev nmIsPl : List Str := ["many", "thing"]
theorem scIsPl : FnScope nmIsPl ["many", "thing"] (defScope sIsPl) := ⟨rfl, rfl, rfl, by decide +kernel, rfl, by decide +kernel, by decide +kernel⟩
theorem ok_IsPl (U : Fs K mg) (T : Bl mg) : FnOk P w K mg base CX0 2 U.aIsPl U.dIsPl ["many", "thing"] (spIsPl K) := by
  have GIsInt : FnOk P w K mg base CX0 1 U.aIsInt U.dIsInt ["thing"] (spIsInt K) := (ok_IsInt U T).mono (by decide)
  refine U.FIsPl.ok scIsPl (fun vs H Q E h => ?_) (fun cdv A outer s H vs Q E hr h => ?_)
  · obtain ⟨m, x, tn, rfl, _⟩ := h
    rfl
  · obtain ⟨m, x, tn, rfl, ht, q⟩ := h
    refine ⟨_, (pss_one (ps_ret (pe_and (pe_call GIsInt hr rfl U.mIsInt U.FIsInt.kp U.bIsInt .nil pass0 (pa_cons (pv 1) pa_nil)) (pe_one (pe_chain op_le op_lt pe_int (pv 1) (pv 0)))))), ?_⟩
    refine ⟨_, rfl, x, tn, rfl, ht, isI x, rfl, ?_⟩
    cases x <;> first | exact iteF q | skip
    rename_i i
    refine iteT ⟨_, rfl, _, _, rfl, rfl, _, rfl, ?_⟩
    have e : isPl m (.int i) = (decide (0 ≤ i) && decide (i < m)) := rfl
    rw [e] at q
    refine ite2 (fun c => ?_) (fun c => ?_)
    · rw [c] at q
      exact ⟨_, rfl, _, _, rfl, rfl, q⟩
    · rw [Bool.eq_false_iff.mpr c] at q
      exact q
/-! ### are_two_places, is_pair -/
def spTwo (K : PySem.W.Frag) : Sp := fun vs H Q _ => ∃ (m : Int) (x y : V) (tx ty : String), vs = [.int m, x, y] ∧ TyV K H x (.type tx) ∧ TyV K H y (.type ty) ∧ Q (.bl (isTwo m x y)) H
abbrev nmTwo : List Str := ["many", "a", "b"]
theorem scTwo : FnScope nmTwo ["many", "a", "b"] (defScope sTwo) := ⟨rfl, rfl, rfl, by decide +kernel, rfl, by decide +kernel, by decide +kernel⟩
theorem ok_Two (U : Fs K mg) (T : Bl mg) : FnOk P w K mg base CX0 3 U.aTwo U.dTwo ["many", "a", "b"] (spTwo K) := by
  have GIsPl : FnOk P w K mg base CX0 2 U.aIsPl U.dIsPl ["many", "thing"] (spIsPl K) := (ok_IsPl U T).mono (by decide)
  refine U.FTwo.ok scTwo (fun vs H Q E h => ?_) (fun cdv A outer s H vs Q E hr h => ?_)
  · obtain ⟨m, x, y, tx, ty, rfl, _⟩ := h
    rfl
  · obtain ⟨m, x, y, tx, ty, rfl, hx, hy, q⟩ := h
    refine ⟨_, (pss_one (ps_ret (pe_and (pe_call GIsPl hr rfl U.mIsPl U.FIsPl.kp U.bIsPl .nil pass0 (pa_cons (pv 0) (pa_cons (pv 1) pa_nil))) (pe_and (pe_call GIsPl hr rfl U.mIsPl U.FIsPl.kp U.bIsPl .nil pass0 (pa_cons (pv 0) (pa_cons (pv 2) pa_nil))) (pe_one (pe_cmpR op_ne (pv 1) (pv 2) (nomark _))))))), ?_⟩
    refine ⟨_, rfl, _, rfl, m, x, tx, rfl, hx, isPl m x, rfl, ?_⟩
    unfold isTwo at q
    cases c1 : isPl m x with
    | false => rw [c1, Bool.false_and, Bool.false_and] at q; exact iteF q
    | true =>
      rw [c1, Bool.true_and] at q
      refine iteT ⟨_, rfl, _, rfl, m, y, ty, rfl, hy, isPl m y, rfl, ?_⟩
      cases c2 : isPl m y with
      | false => rw [c2, Bool.false_and] at q; exact iteF q
      | true =>
        rw [c2, Bool.true_and] at q
        obtain ⟨i, rfl, _⟩ := isPl_int c1
        obtain ⟨j, rfl, _⟩ := isPl_int c2
        exact iteT ⟨_, rfl, _, rfl, rfl, q⟩
def PairP (m : Int) (o : Option (List V)) (p : Pr) : Prop := o = some [.int p.1, .int p.2] ∧ 0 ≤ p.1 ∧ p.1 < p.2 ∧ p.2 < m
def spIsPair (K : PySem.W.Frag) : Sp := fun vs H Q _ => ∃ (m : Int) (v : V) (o : Option (List V)), vs = [.int m, v] ∧ Th K H v o ∧ ∀ b : Bool, (b = true ↔ ∃ p, PairP m o p) → Q (.bl b) H
/-! ### is_list_or_tuple, is_many, lesser_first -/
def spNo : Sp := fun _ _ _ _ => False
def spIsLT (K : PySem.W.Frag) : Sp := fun vs H Q _ => ∃ (x : V) (n : String), vs = [x] ∧ TyV K H x (.type n) ∧ ∀ H', Same H H' → Q (.bl (n == "list" || n == "tuple")) H'
theorem valsLT : ∀ zs, Vals [.ty "list", .ty "tuple"] zs → zs = [.type "list", .type "tuple"] := fun zs h => by
  cases h with
  | cons r1 h => cases h with
    | cons r2 h => cases h; cases r1; cases r2; rfl
abbrev nmIsLT : List Str := ["thing"]
theorem scIsLT : FnScope nmIsLT ["thing"] (defScope sIsLT) := ⟨rfl, rfl, rfl, by decide +kernel, rfl, by decide +kernel, by decide +kernel⟩
theorem ok_IsLT (U : Fs K mg) (T : Bl mg) : FnOk P w K mg base CX0 1 U.aIsLT U.dIsLT ["thing"] (spIsLT K) := by
  refine U.FIsLT.ok scIsLT (fun vs H Q E h => ?_) (fun cdv A outer s H vs Q E hr h => ?_)
  · obtain ⟨x, tn, rfl, _⟩ := h
    rfl
  · obtain ⟨x, tn, rfl, ht, q⟩ := h
    refine ⟨_, (pss_one (ps_ret (pe_callB call_isiT (by rfl) T.isinstance (by decide +kernel) (pa_cons (pv 0) (pa_cons (pe_tup (pa_cons (pe_bltn (v := .ty "list") (by rfl) T.list (by decide +kernel) rfl) (pa_cons (pe_bltn (v := .ty "tuple") (by rfl) T.tuple (by decide +kernel) rfl) pa_nil))) pa_nil))))), ?_⟩
    refine ⟨_, rfl, two_le, fun p hp => ⟨x, p, _, _, .type tn, (tn == "list" || tn == "tuple"), rfl, upd_same, ht.mono (same_upd hp), valsLT, ?_, q _ (same_upd hp)⟩⟩
    clear q
    cases ht <;> rfl
def spIsMany (K : PySem.W.Frag) : Sp := fun vs H Q _ => ∃ n : Int, vs = [.int n] ∧ Q (.bl (decide (3 ≤ n) && decide (n ≤ 20))) H
abbrev nmIsMany : List Str := ["thing"]
theorem scIsMany : FnScope nmIsMany ["thing"] (defScope sIsMany) := ⟨rfl, rfl, rfl, by decide +kernel, rfl, by decide +kernel, by decide +kernel⟩
theorem ok_IsMany (U : Fs K mg) (T : Bl mg) : FnOk P w K mg base CX0 2 U.aIsMany U.dIsMany ["thing"] (spIsMany K) := by
  have GIsInt : FnOk P w K mg base CX0 1 U.aIsInt U.dIsInt ["thing"] (spIsInt K) := (ok_IsInt U T).mono (by decide)
  refine U.FIsMany.ok scIsMany (fun vs H Q E h => ?_) (fun cdv A outer s H vs Q E hr h => ?_)
  · obtain ⟨n, rfl, _⟩ := h
    rfl
  · obtain ⟨n, rfl, q⟩ := h
    refine ⟨_, (pss_one (ps_ret (pe_and (pe_call GIsInt hr rfl U.mIsInt U.FIsInt.kp U.bIsInt .nil pass0 (pa_cons (pv 0) pa_nil)) (pe_one (pe_chain op_le op_le (pe_glob (v := .int 3) (by rfl) U.c_FEWEST_PLACES.choose_spec ⟨_, rfl⟩) (pv 0) (pe_glob (v := .int 20) (by rfl) U.c_MOST_PLACES.choose_spec ⟨_, rfl⟩)))))), ?_⟩
    refine ⟨_, rfl, .int n, "int", rfl, .int _, true, rfl, iteT ?_⟩
    refine ⟨_, rfl, _, _, rfl, rfl, _, rfl, ?_⟩
    refine ite2 (fun c => ?_) (fun c => ?_)
    · rw [c] at q
      exact ⟨_, _, rfl, rfl, q⟩
    · rw [Bool.eq_false_iff.mpr c] at q
      exact q
def spLess : Sp := fun vs H Q _ => ∃ i j : Int, vs = [.int i, .int j] ∧ ∀ p, H p = none → Q (.ref p) (upd H p (.tup [.int (mn i j), .int (mx i j)]))
abbrev nmLess : List Str := ["a", "b"]
theorem scLess : FnScope nmLess ["a", "b"] (defScope sLess) := ⟨rfl, rfl, rfl, by decide +kernel, rfl, by decide +kernel, by decide +kernel⟩
theorem ok_Less (U : Fs K mg) (T : Bl mg) : FnOk P w K mg base CX0 1 U.aLess U.dLess ["a", "b"] spLess := by
  refine U.FLess.ok scLess (fun vs H Q E h => ?_) (fun cdv A outer s H vs Q E hr h => ?_)
  · obtain ⟨i, j, rfl, _⟩ := h
    rfl
  · obtain ⟨i, j, rfl, q⟩ := h
    refine ⟨_, (pss_one (ps_ret (pe_tup (pa_cons (pe_callB (call_min2 rfl) (by rfl) T.min (by decide +kernel) (pa_cons (pv 0) (pa_cons (pv 1) pa_nil))) (pa_cons (pe_callB (call_max2 rfl) (by rfl) T.max (by decide +kernel) (pa_cons (pv 0) (pa_cons (pv 1) pa_nil))) pa_nil))))), ?_⟩
    exact ⟨_, rfl, _, rfl, _, _, rfl, _, rfl, _, rfl, _, _, rfl, two_le, q⟩
theorem ok_PairOf (U : Fs K mg) (T : Bl mg) : FnOk P w K mg base (CX3 P w) 1 U.aPairOf U.dPairOf ["many", "thing"] spNo := ⟨fun _ _ _ _ h => h.elim, fun _ _ _ _ _ _ _ _ _ _ _ _ _ h => h.elim⟩
/-! ### made_web without ties -/
def spMade0 (K : PySem.W.Frag) : Sp := fun vs H Q _ => ∃ (n : Nat) (e : Addr), vs = [.int n, .ref e] ∧ H e = some (.tup []) ∧ 3 ≤ n ∧ n ≤ 20 ∧ ∀ (v : V) (H' : Hp), Same H H' → WebAt H' v n [] → Q v H'
abbrev nmMade : List Str := ["many", "ties", "made", "thing", "pair"]
theorem scMade : FnScope nmMade ["many", "ties"] (defScope sMade) := ⟨rfl, rfl, rfl, by decide +kernel, rfl, by decide +kernel, by decide +kernel⟩
set_option maxHeartbeats 2000000 in
theorem ok_Made (U : Fs K mg) (T : Bl mg) : FnOk P w K mg base (CX3 P w) 4 U.aMade U.dMade ["many", "ties"] (spMade0 K) := by
  have GIsMany : FnOk P w K mg base CX0 3 U.aIsMany U.dIsMany ["thing"] (spIsMany K) := (ok_IsMany U T).mono (by decide)
  have GIsLT : FnOk P w K mg base CX0 3 U.aIsLT U.dIsLT ["thing"] (spIsLT K) := (ok_IsLT U T).mono (by decide)
  have GPairOf : FnOk P w K mg base (CX3 P w) 3 U.aPairOf U.dPairOf ["many", "thing"] spNo := (ok_PairOf U T).mono (by decide)
  refine U.FMade.ok3 scMade (fun vs H Q E h => ?_) (fun cdv A outer s H vs Q E hr hX h => ?_)
  · obtain ⟨n, e, rfl, _⟩ := h
    rfl
  · obtain ⟨n, e, rfl, he, hn3, hn, q⟩ := h
    refine ⟨_, (pss_cons (ps_if (PW.pt (pw_or (pt_not (pt_val (pe_call GIsMany hr rfl U.mIsMany U.FIsMany.kp U.bIsMany .nil pass0 (pa_cons (pv 0) pa_nil)))) (pw_or1 (pt_not (pt_val (pe_call GIsLT hr rfl U.mIsLT U.FIsLT.kp U.bIsLT .nil pass0 (pa_cons (pv 1) pa_nil))))))) 
        (pss_one (ps_raise3 U.o_NoWeb hX hr.hd rfl)) pss_nil)
      (pss_cons (ps_set (i := 2) scMade.nd rfl (Or.inl rfl) (pe_callTy0 cr_set0 (by rfl) T.set (by decide +kernel)))
      (pss_cons (ps_for PassesOwn.leaving rfl (pi_tup (pv 1)) (pg_name (i := 3) scMade.nd rfl (Or.inl rfl)) 
        (pss_cons (ps_set (i := 4) scMade.nd rfl (Or.inl rfl) (pe_call GPairOf hr rfl U.mPairOf U.FPairOf.kp U.bPairOf .nil hX.pass (pa_cons (pv 0) (pa_cons (pv 3) pa_nil))))
        (pss_cons (ps_if (pt_cmpR (op_inS2 (hu1_of hr)) (pv 4) (pv 2) (by rfl)) 
          (pss_one (ps_raise3 U.o_NoWeb hX hr.hd rfl)) pss_nil)
        (pss_one (ps_expr (pe_sm PySem.F.slot_set_add PySem.F.type_set_add (mt_addS (hu1_of hr)) (pv 2) (pa_cons (pv 4) pa_nil)))))))
      (pss_one (ps_ret (pe_tup (pa_cons (pv 0) (pa_cons (pe_callTy call_tuple_of (by rfl) T.tuple (by decide +kernel) (pa_cons (pe_callB (cr_sortedSet hr.hd) (by rfl) T.sorted (by decide +kernel) (pa_cons (pv 2) pa_nil)) pa_nil)) pa_nil)))))))), ?_⟩
    refine ⟨_, rfl, n, rfl, _, rfl, ?_⟩
    refine iteB (c := false) (by rw [show (decide ((3 : Int) ≤ (n : Int)) && decide ((n : Int) ≤ 20)) = true from by rw [decide_eq_true (by omega), decide_eq_true (by omega)]; rfl]; rfl) (iteF ?_)
    refine ⟨_, rfl, .ref e, "tuple", rfl, .tup (SqT.of he), fun H1 s1 => ⟨_, rfl, iteF ?_⟩⟩
    refine ⟨rfl, fun D hD => ?_⟩
    have s2 : Same H (upd H1 D (SetO P w D [])) := s1.upd hD
    refine ⟨_, rfl, e, rfl, ⟨_, SqT.of (s2 _ _ he)⟩, for_tup (K := K) (a := e) (xs := []) (fun i σ H2 => σ = [some (.int n), some (.ref e), some (.ref D), none, none] ∧ H2 = upd H1 D (SetO P w D [])) ⟨rfl, rfl⟩ (fun i σ H2 _ h => by rw [h.2]; exact SqT.of (s2 _ _ he)) (fun i x σ H2 hx => by simp at hx) ?_⟩
    rintro σ H2 ⟨rfl, rfl⟩
    refine ⟨_, rfl, _, rfl, D, [], rfl, upd_same, (fun m hm => by cases hm), Nat.zero_le _, fun ys p hperm _ hp => ?_⟩
    obtain rfl : ys = [] := List.perm_nil.mp (by simpa using hperm)
    refine ⟨p, [], rfl, .inl ⟨SqL.of upd_same, fun c hc => ⟨two_le, fun d hd => ?_⟩⟩⟩
    have s4 := ((s2.upd (o := .lst []) hp).upd (o := .tup []) hc).upd (o := .tup [.int n, .ref c]) hd
    exact q (.ref d) _ s4 ⟨d, c, [], rfl, upd_same, by rw [upd_ne (ne_of_none upd_same hd), upd_same], .nil⟩
/-! ### tie_of, with_tie, without_tie -/
def spTieOf (K : PySem.W.Frag) : Sp := fun vs H Q _ => ∃ (n : Nat) (a b : Int), vs = [.int n, .int a, .int b] ∧ (0 ≤ a ∧ a < n) ∧ (0 ≤ b ∧ b < n) ∧ a ≠ b ∧ ∀ (r : Addr) (H' : Hp), H r = none → Same H H' → H' r = some (.tup [.int (mn a b), .int (mx a b)]) → Q (.ref r) H'
abbrev nmTieOf : List Str := ["many", "a", "b"]
theorem scTieOf : FnScope nmTieOf ["many", "a", "b"] (defScope sTieOf) := ⟨rfl, rfl, rfl, by decide +kernel, rfl, by decide +kernel, by decide +kernel⟩
theorem ok_TieOf (U : Fs K mg) (T : Bl mg) : FnOk P w K mg base (CX3 P w) 4 U.aTieOf U.dTieOf ["many", "a", "b"] (spTieOf K) := by
  have GTwo : FnOk P w K mg base CX0 3 U.aTwo U.dTwo ["many", "a", "b"] (spTwo K) := (ok_Two U T).mono (by decide)
  have GLess : FnOk P w K mg base CX0 3 U.aLess U.dLess ["a", "b"] spLess := (ok_Less U T).mono (by decide)
  refine U.FTieOf.ok3 scTieOf (fun vs H Q E h => ?_) (fun cdv A outer s H vs Q E hr hX h => ?_)
  · obtain ⟨n, a, b, rfl, _⟩ := h
    rfl
  · obtain ⟨n, a, b, rfl, ha, hb, hab, q⟩ := h
    refine ⟨_, (pss_cons (ps_if (pt_not (pt_val (pe_call GTwo hr rfl U.mTwo U.FTwo.kp U.bTwo .nil pass0 (pa_cons (pv 0) (pa_cons (pv 1) (pa_cons (pv 2) pa_nil)))))) 
        (pss_one (ps_raise3 U.o_NoTie hX hr.hd rfl)) pss_nil)
      (pss_one (ps_ret (pe_call GLess hr rfl U.mLess U.FLess.kp U.bLess .nil pass0 (pa_cons (pv 1) (pa_cons (pv 2) pa_nil)))))), ?_⟩
    refine ⟨_, rfl, _, rfl, _, rfl, n, .int a, .int b, "int", "int", rfl, .int _, .int _, _, rfl, ?_⟩
    have e : isTwo (n : Int) (.int a) (.int b) = true := by
      show ((decide (0 ≤ a) && decide (a < (n : Int))) && (decide (0 ≤ b) && decide (b < (n : Int))) && !decide (V.int a = V.int b)) = true
      rw [decide_eq_true ha.1, decide_eq_true ha.2, decide_eq_true hb.1, decide_eq_true hb.2, decide_eq_false (fun z => hab (V.int.inj z))]
      rfl
    rw [e]
    refine iteF ?_
    exact ⟨_, rfl, _, rfl, a, b, rfl, fun r hr2 => q r _ hr2 (same_upd hr2) upd_same⟩
def AddQ (ps : List Pr) (t : Pr) (qs : List Pr) : Prop := ∀ q, q ∈ qs ↔ q ∈ ps ∨ q = t
def spWithT (K : PySem.W.Frag) (C : Addr) : Sp := fun vs H Q E => ∃ (v : V) (n : Nat) (ps : List Pr) (a b : Int), vs = [v, .int a, .int b] ∧ WebAt H v n ps ∧ Good n ps ∧ n ≤ 20 ∧ (0 ≤ a ∧ a < n) ∧ (0 ≤ b ∧ b < n) ∧ a ≠ b ∧
  (pr a b ∈ ps → ∀ H', Same H H' → E (.ref C) none H') ∧ (pr a b ∉ ps → ∀ (v' : V) (qs : List Pr) (H' : Hp), Same H H' → WebAt H' v' n qs → Good n qs → AddQ ps (pr a b) qs → Q v' H')
abbrev nmWithT : List Str := ["web", "a", "b", "many", "ties", "tie"]
theorem scWithT : FnScope nmWithT ["web", "a", "b"] (defScope sWithT) := ⟨rfl, rfl, rfl, by decide +kernel, rfl, by decide +kernel, by decide +kernel⟩
set_option maxHeartbeats 4000000 in
theorem ok_WithT (U : Fs K mg) (T : Bl mg) : FnOk P w K mg base (CX3 P w) 5 U.aWithT U.dWithT ["web", "a", "b"] (spWithT K U.e_NoTie) := by
  have GTieOf : FnOk P w K mg base (CX3 P w) 4 U.aTieOf U.dTieOf ["many", "a", "b"] (spTieOf K) := (ok_TieOf U T).mono (by decide)
  refine U.FWithT.ok3 scWithT (fun vs H Q E h => ?_) (fun cdv A outer s H vs Q E hr hX h => ?_)
  · obtain ⟨v, n, ps, a, b, rfl, _⟩ := h
    rfl
  · obtain ⟨v, n, ps, a, b, rfl, hw, hg, hn, ha, hb, hab, qE, q⟩ := h
    refine ⟨_, (pss_cons (ps_asg (pv 0) (pg_tup rfl (pgs_cons (pg_name (i := 3) scWithT.nd rfl (Or.inl rfl)) (pgs_cons (pg_name (i := 4) scWithT.nd rfl (Or.inl rfl)) pgs_nil))))
      (pss_cons (ps_set (i := 5) scWithT.nd rfl (Or.inl rfl) (pe_call GTieOf hr rfl U.mTieOf U.FTieOf.kp U.bTieOf .nil hX.pass (pa_cons (pv 3) (pa_cons (pv 1) (pa_cons (pv 2) pa_nil)))))
      (pss_cons (ps_if (pt_cmpR (op_inD hr.units) (pv 5) (pv 4) (by rfl)) 
        (pss_one (ps_raise3 U.o_NoTie hX hr.hd rfl)) pss_nil)
      (pss_one (ps_ret (pe_tup (pa_cons (pv 3) (pa_cons (pe_callTy call_tuple_of (by rfl) T.tuple (by decide +kernel) (pa_cons (pe_callB cr_sortedP (by rfl) T.sorted (by decide +kernel) (pa_cons (pe_lst (pa_star (pv 4) (pa_cons (pv 5) pa_nil))) pa_nil)) pa_nil)) pa_nil)))))))), ?_⟩
    have big : 3000 ≤ sizeLine := by decide
    have h190 := good_190 hg hn
    obtain ⟨wa, wt, wys, rfl, hwa, hwt, hwps⟩ := id hw
    have wl := Paired.length hwps
    have hmm : 0 ≤ mn a b ∧ mn a b < mx a b ∧ mx a b < (n : Int) := mnmx ha hb hab
    refine ⟨_, rfl, wa, _, rfl, SqT.of hwa, rfl, _, _, rfl, _, _, rfl, rfl, ?_⟩
    refine ⟨_, rfl, _, rfl, _, rfl, n, a, b, rfl, ha, hb, hab, fun r H1 hrN s1 hr1 => ?_⟩
    refine ⟨_, rfl, _, rfl, pd (pr a b), ps.map pd, dp_pd hr1, .inl (.tup (SqT.of (s1 _ _ hwt)) (dpAll_pairs (PairsAt.mono (SameT.of s1) hwps))), rfl, canLay_pairs ps, by show 1 ≤ 60; decide, ?_⟩
    rw [if_neg Bool.false_ne_true, any_pd]
    refine ⟨_, rfl, ?_⟩
    refine ite2 (fun c => ?_) (fun c => ?_)
    · have c := of_decide_eq_true c
      exact qE c H1 s1
    have c : pr a b ∉ ps := of_decide_eq_false (Bool.eq_false_iff.mpr c)
    refine ⟨_, rfl, _, rfl, wt, wys, rfl, SqT.of (s1 _ _ hwt), _, rfl, by rw [List.length_append]; show wys.length + 1 ≤ _; omega, fun l hl => ?_⟩
    have s2 : Same H1 (upd H1 l (.lst (wys ++ [.ref r]))) := same_upd hl
    have hp2 : PairsAt (upd H1 l (.lst (wys ++ [.ref r]))) (wys ++ [.ref r]) (ps ++ [pr a b]) := PairsAt.append (PairsAt.mono (SameT.of (s1.trans s2)) hwps) (.cons ⟨r, rfl, s2 _ _ hr1⟩ .nil)
    have g2 : (upd H1 l (.lst (wys ++ [.ref r]))) l = some (.lst (wys ++ [.ref r])) := upd_same
    generalize (upd H1 l (.lst (wys ++ [.ref r]))) = H2 at *
    refine ⟨l, _, rfl, SqL.of g2, (gP_of hp2).2, fun us u hperm hsort hu => ?_⟩
    obtain ⟨hz, hzp⟩ := sorted_prs hp2 hperm
    refine ⟨u, us, rfl, .inl ⟨SqL.of upd_same, fun c2 hc2 => ⟨two_le, fun d hd => ?_⟩⟩⟩
    have s4 : Same H2 (upd (upd (upd H2 u (.lst us)) c2 (.tup us)) d (.tup [.int n, .ref c2])) := ((same_upd hu).upd hc2).upd hd
    have mem : ∀ q, q ∈ us.map (gP H2) ↔ q ∈ ps ∨ q = pr a b := fun q => by rw [hzp.mem_iff, List.mem_append, List.mem_singleton]
    have nd : (ps ++ [pr a b]).Nodup := List.nodup_append.mpr ⟨hg.nodup, by simp, fun x hx y hy e => by rw [List.mem_singleton.mp hy] at e; subst e; exact c hx⟩
    refine q c (.ref d) _ _ ((s1.trans s2).trans s4) ⟨d, c2, us, rfl, upd_same, by rw [upd_ne (ne_of_none upd_same hd), upd_same], PairsAt.mono (SameT.of s4) hz⟩ ⟨lt2_of_le2 hsort (hzp.nodup_iff.mpr nd), fun z hz2 => ?_⟩ mem
    rcases (mem z).mp hz2 with h | h
    · exact hg.lo z h
    · rw [h]; exact hmm
def SubQ (ps : List Pr) (t : Pr) (qs : List Pr) : Prop := ∀ q, q ∈ qs ↔ q ∈ ps ∧ q ≠ t
def spWoutT (K : PySem.W.Frag) (C : Addr) : Sp := fun vs H Q E => ∃ (v : V) (n : Nat) (ps : List Pr) (a b : Int), vs = [v, .int a, .int b] ∧ WebAt H v n ps ∧ Good n ps ∧ n ≤ 20 ∧ (0 ≤ a ∧ a < n) ∧ (0 ≤ b ∧ b < n) ∧ a ≠ b ∧
  (pr a b ∉ ps → ∀ H', Same H H' → E (.ref C) none H') ∧ (pr a b ∈ ps → ∀ (v' : V) (qs : List Pr) (H' : Hp), Same H H' → WebAt H' v' n qs → Good n qs → SubQ ps (pr a b) qs → Q v' H')
abbrev nmWoutT : List Str := ["web", "a", "b", "many", "ties", "gone", "tie"]
theorem scWoutT : FnScope nmWoutT ["web", "a", "b"] (defScope sWoutT) := ⟨rfl, rfl, rfl, by decide +kernel, rfl, by decide +kernel, by decide +kernel⟩
set_option maxHeartbeats 4000000 in
theorem ok_WoutT (U : Fs K mg) (T : Bl mg) : FnOk P w K mg base (CX3 P w) 5 U.aWoutT U.dWoutT ["web", "a", "b"] (spWoutT K U.e_NoTie) := by
  have GTieOf : FnOk P w K mg base (CX3 P w) 4 U.aTieOf U.dTieOf ["many", "a", "b"] (spTieOf K) := (ok_TieOf U T).mono (by decide)
  refine U.FWoutT.ok3 scWoutT (fun vs H Q E h => ?_) (fun cdv A outer s H vs Q E hr hX h => ?_)
  · obtain ⟨v, n, ps, a, b, rfl, _⟩ := h
    rfl
  · obtain ⟨v, n, ps, a, b, rfl, hw, hg, hn, ha, hb, hab, qE, q⟩ := h
    refine ⟨_, (pss_cons (ps_asg (pv 0) (pg_tup rfl (pgs_cons (pg_name (i := 3) scWoutT.nd rfl (Or.inl rfl)) (pgs_cons (pg_name (i := 4) scWoutT.nd rfl (Or.inl rfl)) pgs_nil))))
      (pss_cons (ps_set (i := 5) scWoutT.nd rfl (Or.inr rfl) (pe_call GTieOf hr rfl U.mTieOf U.FTieOf.kp U.bTieOf .nil hX.pass (pa_cons (pv 3) (pa_cons (pv 1) (pa_cons (pv 2) pa_nil)))))
      (pss_cons (ps_if (pt_cmpR (op_notInD hr.units) (pv 5) (pv 4) (by rfl)) 
        (pss_one (ps_raise3 U.o_NoTie hX hr.hd rfl)) pss_nil)
      (pss_one (ps_ret (pe_tup (pa_cons (pv 3) (pa_cons (pe_callTy call_tuple_of (by rfl) T.tuple (by decide +kernel) (pa_cons (pe_lc (own := [("tie", 6)]) (g := (gName 6)) (tt := (tTest (tOp (rNeD K) (tVar 6) (tVar 5)))) (te := (tVar 6)) (by rfl) scWoutT.nd (pi_tup (pv 4)) (blkOk_by (own := [("tie", 6)]) (N := nmWoutT) (sc := defScope sWoutT) (by decide +kernel)) (fun _ _ _ _ _ => by exact (pg_name (i := 6) scWoutT.nd rfl (Or.inl rfl))) (fun _ _ _ _ _ => by exact (pts_one (pt_cmpR (op_neD hr.units) (pv 6) (pv 5) (nomark _)))) (fun _ _ _ _ _ => by exact (pv 6))) pa_nil)) pa_nil)))))))), ?_⟩
    have big : 3000 ≤ sizeLine := by decide
    have h190 := good_190 hg hn
    obtain ⟨wa, wt, wys, rfl, hwa, hwt, hwps⟩ := id hw
    have wl := Paired.length hwps
    refine ⟨_, rfl, wa, _, rfl, SqT.of hwa, rfl, _, _, rfl, _, _, rfl, rfl, ?_⟩
    refine ⟨_, rfl, _, rfl, _, rfl, n, a, b, rfl, ha, hb, hab, fun r H1 hrN s1 hr1 => ?_⟩
    refine ⟨_, rfl, _, rfl, pd (pr a b), ps.map pd, dp_pd hr1, .inl (.tup (SqT.of (s1 _ _ hwt)) (dpAll_pairs (PairsAt.mono (SameT.of s1) hwps))), rfl, canLay_pairs ps, by show 1 ≤ 60; decide, ?_⟩
    rw [if_pos rfl, any_pd]
    refine ⟨_, rfl, ?_⟩
    by_cases c : pr a b ∈ ps
    rotate_left
    · refine iteB (c := true) (by rw [decide_eq_false c]; rfl) (iteT ?_)
      exact qE c H1 s1
    refine iteB (c := false) (by rw [decide_eq_true c]; rfl) (iteF ?_)
    refine ⟨_, rfl, _, rfl, wt, rfl, ⟨_, SqT.of (s1 _ _ hwt)⟩, fun D hD => ?_⟩
    refine lc_tup (K := K) (a := wt) (xs := wys) (fun i H2 => ∃ zs, Same H1 H2 ∧ H2 D = some (.lst zs) ∧ PairsAt H2 zs ((ps.take i).filter fun q => !decide (q = pr a b)))
      ⟨[], same_upd hD, upd_same, .nil⟩ (fun i H2 _ ⟨_, s2, _⟩ => SqT.of (s2 _ _ (s1 _ _ hwt))) ?_ ?_
    · rintro i y H2 hy ⟨zs, s2, hD2, hzs⟩
      obtain ⟨p, r9, hp, rfl, hr9⟩ := PairsAt.get hwps hy
      have hll := Paired.length hzs
      have hfl := List.length_filter_le (fun q => !decide (q = pr a b)) (ps.take i)
      rw [List.length_take] at hfl
      have hr92 := s2 _ _ (s1 _ _ hr9)
      refine ⟨rfl, _, rfl, _, rfl, pd p, pd (pr a b), dp_pd hr92, dp_pd (s2 _ _ hr1), rfl, rfl, ?_⟩
      refine ⟨_, rfl, ?_⟩
      have e1 : PyData.eqv (pd p) (pd (pr a b)) = decide (p = pr a b) := by
        have := any_pd [p] (pr a b)
        simpa [eq_comm] using this
      rw [e1, take_snoc hp, List.filter_append]
      refine ite2 (fun c1 => ?_) (fun c1 => ?_)
      · refine ⟨_, rfl, zs, hD2, by omega, zs ++ [.ref r9], s2.updN hD, upd_same, ?_⟩
        rw [List.filter_cons_of_pos (p := fun q => !decide (q = pr a b)) (a := p) (l := []) c1]
        exact Paired.snoc (PairsAt.mono (SameT.lst hD2) hzs) ⟨r9, rfl, by rw [upd_ne (ne_of hr92 hD2 (by intro z; cases z))]; exact hr92⟩
      · refine ⟨zs, s2, hD2, ?_⟩
        rw [List.filter_cons_of_neg (p := fun q => !decide (q = pr a b)) (a := p) (l := []) c1]
        simpa using hzs
    rintro H2 ⟨zs, s2, hD2, hzs⟩
    rw [wl, List.take_length] at hzs
    refine ⟨D, zs, rfl, .inl ⟨SqL.of hD2, fun c2 hc2 => ⟨two_le, fun d hd => ?_⟩⟩⟩
    have s4 : Same H2 (upd (upd H2 c2 (.tup zs)) d (.tup [.int n, .ref c2])) := (same_upd hc2).upd hd
    refine q c (.ref d) _ _ ((s1.trans s2).trans s4) ⟨d, c2, zs, rfl, upd_same, by rw [upd_ne (ne_of_none upd_same hd), upd_same], PairsAt.mono (SameT.of s4) hzs⟩ ⟨hg.up.filter _, fun z hz2 => hg.lo z (List.mem_filter.mp hz2).1⟩ fun q => ?_
    rw [List.mem_filter, Bool.not_eq_true', decide_eq_false_iff_not]
end
end Wb

end
section
set_option Elab.async false
set_option linter.all false
set_option maxRecDepth 100000
namespace Wb
open PySem L2
section
variable {P : Program} {w : World} {K : PySem.W.Frag} {mg : Str → Option Value} {base : Heap}
/-! ### the desk -/
/-- the desk at a, its dict at dx, its deeds at dl: the web now, the ties of the deeds -/
structure DeskAt (C : Addr) (H : Hp) (a dx dl : Addr) (n : Nat) (ps ds : List Pr) : Prop where
  at_ : ∃ w ys, H a = some (.ins C dx [("now", w), ("deeds", .ref dl)]) ∧ WebAt H w n ps ∧ H dl = some (.lst ys) ∧ PairsAt H ys ds
  good : Good n ps
  le : n ≤ 20
  ge : 3 ≤ n
  few : ds.length ≤ 2000
  ne : a ≠ dl
/-- all but the desk and its deeds stays -/
def Kp (a dl : Addr) (H H' : Hp) : Prop := ∀ b o, H b = some o → b ≠ a → b ≠ dl → H' b = some o
theorem Kp.refl (a dl : Addr) (H : Hp) : Kp a dl H H := fun _ _ h _ _ => h
theorem Kp.trans {a dl : Addr} {H H1 H2 : Hp} (x : Kp a dl H H1) (y : Kp a dl H1 H2) : Kp a dl H H2 := fun b o h n m => y b o (x b o h n m) n m
theorem Kp.of {a dl : Addr} {H H' : Hp} (s : Same H H') : Kp a dl H H' := fun b o h _ _ => s b o h
theorem Kp.updA {a dl : Addr} {H H' : Hp} {o : HO} (x : Kp a dl H H') : Kp a dl H (upd H' a o) := fun b u h n m => by rw [upd_ne n]; exact x b u h n m
theorem Kp.updD {a dl : Addr} {H H' : Hp} {o : HO} (x : Kp a dl H H') : Kp a dl H (upd H' dl o) := fun b u h n m => by rw [upd_ne m]; exact x b u h n m
theorem DeskAt.tup {C : Addr} {H H' : Hp} {a dx dl : Addr} {n : Nat} {ps ds : List Pr} (d : DeskAt C H a dx dl n ps ds) (k : Kp a dl H H') : SameT H H' := fun b xs h => by
  obtain ⟨w, ys, h1, _, h2, _⟩ := d.at_
  exact k b _ h (fun e => by rw [e, h1] at h; cases h) (fun e => by rw [e, h2] at h; cases h)
theorem DeskAt.same {C : Addr} {H H' : Hp} {a dx dl : Addr} {n : Nat} {ps ds : List Pr} (d : DeskAt C H a dx dl n ps ds) (s : Same H H') : DeskAt C H' a dx dl n ps ds := by
  obtain ⟨w, ys, h1, hw, h2, hp⟩ := d.at_
  exact ⟨⟨w, ys, s _ _ h1, hw.same (SameT.of s), s _ _ h2, PairsAt.mono (SameT.of s) hp⟩, d.good, d.le, d.ge, d.few, d.ne⟩
abbrev fsD (w : V) (dl : Addr) : List (Str × V) := [(Str.ofString "now", w), (Str.ofString "deeds", .ref dl)]
theorem pairs_takeD {H : Hp} : ∀ {xs : List V} {us : List Pr} (j : Nat), PairsAt H xs us → PairsAt H (xs.take j) (us.take j)
  | _, _, 0, _ => by rw [List.take_zero, List.take_zero]; exact .nil
  | _, _, _ + 1, .nil => .nil
  | _, _, j + 1, .cons r t => by rw [List.take_succ_cons, List.take_succ_cons]; exact .cons r (pairs_takeD j t)
def spDkI (K : PySem.W.Frag) (C : Addr) : Sp := fun vs H Q _ => ∃ (a dx : Addr) (n : Nat), vs = [.ref a, .int n] ∧ H a = some (.ins C dx []) ∧ 3 ≤ n ∧ n ≤ 20 ∧
  ∀ (dl : Addr) (H' : Hp), (∀ b o, H b = some o → b ≠ a → H' b = some o) → H dl = none → DeskAt C H' a dx dl n [] [] → Q .non H'
abbrev nmDkI : List Str := ["self", "many"]
theorem scDkI : FnScope nmDkI ["self", "many"] (defScope sDkI) := ⟨rfl, rfl, rfl, by decide +kernel, rfl, by decide +kernel, by decide +kernel⟩
set_option maxHeartbeats 2000000 in
theorem ok_DkI (U : Fs K mg) (T : Bl mg) : FnOk P w K mg base (CX3 P w) 5 U.aDkI U.dDkI ["self", "many"] (spDkI K U.e_Desk) := by
  have GMade : FnOk P w K mg base (CX3 P w) 4 U.aMade U.dMade ["many", "ties"] (spMade0 K) := (ok_Made U T).mono (by decide)
  refine U.FDkI.ok3 scDkI (fun vs H Q E h => ?_) (fun cdv A outer s H vs Q E hr hX h => ?_)
  · obtain ⟨a, dx, n, rfl, _⟩ := h
    rfl
  · obtain ⟨a, dx, n, rfl, ha, hn3, hn, q⟩ := h
    refine ⟨_, (pss_cons (ps_fld (pv 0) (pe_call GMade hr rfl U.mMade U.FMade.kp U.bMade .nil hX.pass (pa_cons (pv 1) (pa_cons (pe_tup pa_nil) pa_nil))) rfl)
      (pss_one (ps_fld (pv 0) (pe_lst pa_nil) rfl))), ?_⟩
    refine ⟨_, rfl, by show 0 ≤ sizeLine; decide, fun e he => ?_⟩
    have s1 : Same H (upd H e (.tup [])) := same_upd he
    refine ⟨n, e, rfl, upd_same, hn3, hn, fun w H2 s2 hw => ?_⟩
    have s02 := s1.trans s2
    refine ⟨_, rfl, a, _, dx, _, rfl, s02 _ _ ha, U.k_Desk, U.na_Desk_now, by decide, ?_⟩
    refine ⟨by show 0 ≤ sizeLine; decide, fun dl hdl => ?_⟩
    have ha3 : (upd H2 a (.ins U.e_Desk dx (putF "now" w []))) a = some (.ins U.e_Desk dx [(Str.ofString "now", w)]) := upd_same
    have nad : a ≠ dl := ne_of_none ha3 hdl
    have ha4 : (upd (upd H2 a (.ins U.e_Desk dx (putF "now" w []))) dl (.lst [])) a = some (.ins U.e_Desk dx [(Str.ofString "now", w)]) := by rw [upd_ne nad]; exact ha3
    refine ⟨_, rfl, a, _, dx, _, rfl, ha4, U.k_Desk, U.na_Desk_deeds, (by show 1 < 1000; decide), ?_⟩
    have hd2 : H2 dl = none := by rw [upd_ne nad.symm] at hdl; exact hdl
    refine q dl _ (fun b o h n => ?_) (s02.free hd2) ⟨⟨w, [], ?_, ?_, ?_, .nil⟩, ⟨.nil, fun p h => by cases h⟩, hn, hn3, Nat.zero_le _, nad⟩
    · have hb := s02 _ _ h
      rw [upd_ne n, upd_ne (ne_of_none hb hd2), upd_ne n]
      exact hb
    · rw [upd_same]; rfl
    · refine hw.mono fun b xs h => ?_
      have n1 : b ≠ a := fun z => by rw [z, s02 _ _ ha] at h; cases h
      rw [upd_ne n1, upd_ne (ne_of_none h hd2), upd_ne n1]
      exact h
    · rw [upd_ne nad.symm, upd_same]
def spDkW (K : PySem.W.Frag) (C : Addr) : Sp := fun vs H Q _ => ∃ (a dx dl : Addr) (n : Nat) (ps ds : List Pr), vs = [.ref a] ∧ DeskAt C H a dx dl n ps ds ∧ ∀ w, WebAt H w n ps → Q w H
abbrev nmDkW : List Str := ["self"]
theorem scDkW : FnScope nmDkW ["self"] (defScope sDkW) := ⟨rfl, rfl, rfl, by decide +kernel, rfl, by decide +kernel, by decide +kernel⟩
theorem ok_DkW (U : Fs K mg) (T : Bl mg) : FnOk P w K mg base CX0 1 U.aDkW U.dDkW ["self"] (spDkW K U.e_Desk) := by
  refine U.FDkW.ok scDkW (fun vs H Q E h => ?_) (fun cdv A outer s H vs Q E hr h => ?_)
  · obtain ⟨a, dx, dl, n, ps, ds, rfl, _⟩ := h
    rfl
  · obtain ⟨a, dx, dl, n, ps, ds, rfl, hd, q⟩ := h
    refine ⟨_, (pss_one (ps_ret (pe_fld (pv 0) rfl))), ?_⟩
    obtain ⟨w, ys, h1, hw, h2, hp⟩ := hd.at_
    exact ⟨_, rfl, a, _, dx, _, w, rfl, h1, U.k_Desk, U.na_Desk_now, rfl, q w hw⟩
/-- the web is a new one -/
theorem desk_now {C : Addr} {H H' : Hp} {a dx dl : Addr} {n : Nat} {w w' : V} {qs ds : List Pr} {ys : List V} (h1 : H a = some (.ins C dx (fsD w dl))) (s : Same H H') (hw : WebAt H' w' n qs) (h2 : H dl = some (.lst ys)) (hp : PairsAt H ys ds) (hq : Good n qs) (hn : n ≤ 20) (hn3 : 3 ≤ n) (hl : ds.length ≤ 2000) (ne : a ≠ dl) :
    DeskAt C (upd H' a (.ins C dx (fsD w' dl))) a dx dl n qs ds := by
  have m : SameT H' (upd H' a (.ins C dx (fsD w' dl))) := fun b xs h => by
    rw [upd_ne (fun z => by rw [z, s _ _ h1] at h; cases h)]; exact h
  exact ⟨⟨w', ys, upd_same, hw.mono m, by rw [upd_ne ne.symm]; exact s _ _ h2, PairsAt.mono ((SameT.of s).trans m) hp⟩, hq, hn, hn3, hl, ne⟩
theorem desk_deed {C : Addr} {H : Hp} {a dx dl : Addr} {n : Nat} {ps ds es : List Pr} {ys : List V} (d : DeskAt C H a dx dl n ps ds) (hp : PairsAt H ys es) (hl : es.length ≤ 2000) : DeskAt C (upd H dl (.lst ys)) a dx dl n ps es := by
  obtain ⟨w, zs, h1, hw, h2, _⟩ := d.at_
  have m : SameT H (upd H dl (.lst ys)) := SameT.lst h2
  exact ⟨⟨w, ys, by rw [upd_ne d.ne]; exact h1, hw.mono m, upd_same, PairsAt.mono m hp⟩, d.good, d.le, d.ge, hl, d.ne⟩
def spDkP (K : PySem.W.Frag) (C C1 : Addr) : Sp := fun vs H Q E => ∃ (a dx dl : Addr) (n : Nat) (ps ds : List Pr) (x y : Int), vs = [.ref a, .int x, .int y] ∧ DeskAt C H a dx dl n ps ds ∧ ds.length < 2000 ∧ (0 ≤ x ∧ x < n) ∧ (0 ≤ y ∧ y < n) ∧ x ≠ y ∧
  (pr x y ∈ ps → ∀ H', Same H H' → E (.ref C1) none H') ∧ (pr x y ∉ ps → ∀ (qs : List Pr) (H' : Hp), Kp a dl H H' → DeskAt C H' a dx dl n qs (ds ++ [pr x y]) → AddQ ps (pr x y) qs → Q .non H')
abbrev nmDkP : List Str := ["self", "a", "b"]
theorem scDkP : FnScope nmDkP ["self", "a", "b"] (defScope sDkP) := ⟨rfl, rfl, rfl, by decide +kernel, rfl, by decide +kernel, by decide +kernel⟩
set_option maxHeartbeats 4000000 in
theorem ok_DkP (U : Fs K mg) (T : Bl mg) : FnOk P w K mg base (CX3 P w) 6 U.aDkP U.dDkP ["self", "a", "b"] (spDkP K U.e_Desk U.e_NoTie) := by
  have GWithT : FnOk P w K mg base (CX3 P w) 5 U.aWithT U.dWithT ["web", "a", "b"] (spWithT K U.e_NoTie) := (ok_WithT U T).mono (by decide)
  have GLess : FnOk P w K mg base CX0 5 U.aLess U.dLess ["a", "b"] spLess := (ok_Less U T).mono (by decide)
  refine U.FDkP.ok3 scDkP (fun vs H Q E h => ?_) (fun cdv A outer s H vs Q E hr hX h => ?_)
  · obtain ⟨a, dx, dl, n, ps, ds, x, y, rfl, _⟩ := h
    rfl
  · obtain ⟨a, dx, dl, n, ps, ds, x, y, rfl, hd, hl, hx, hy, hxy, qE, q⟩ := h
    refine ⟨_, (pss_cons (ps_fld (pv 0) (pe_call GWithT hr rfl U.mWithT U.FWithT.kp U.bWithT .nil hX.pass (pa_cons (pe_fld (pv 0) rfl) (pa_cons (pv 1) (pa_cons (pv 2) pa_nil)))) rfl)
      (pss_one (ps_expr (pe_bm PySem.F.plainAttrs_list PySem.F.slot_list_append PySem.F.type_list_append mt_append (pe_fld (pv 0) rfl) (pa_cons (pe_call GLess hr rfl U.mLess U.FLess.kp U.bLess .nil pass0 (pa_cons (pv 1) (pa_cons (pv 2) pa_nil))) pa_nil))))), ?_⟩
    have big : 3000 ≤ sizeLine := by decide
    obtain ⟨w, ys, h1, hw, h2, hp⟩ := hd.at_
    have hyl := Paired.length hp
    refine ⟨_, rfl, a, _, dx, _, w, rfl, h1, U.k_Desk, U.na_Desk_now, rfl, _, rfl, _, rfl, w, n, ps, x, y, rfl, hw, hd.good, hd.le, hx, hy, hxy, qE, fun c w' qs H1 s1 hw1 gq hQ => ?_⟩
    refine ⟨_, rfl, a, _, dx, _, rfl, s1 _ _ h1, U.k_Desk, U.na_Desk_now, (by show 2 < 1000; decide), ?_⟩
    have D1 : DeskAt U.e_Desk (upd H1 a (.ins U.e_Desk dx (fsD w' dl))) a dx dl n qs ds := desk_now h1 s1 hw1 h2 hp gq hd.le hd.ge hd.few hd.ne
    have K1 : Kp a dl H (upd H1 a (.ins U.e_Desk dx (fsD w' dl))) := (Kp.of s1).updA
    have g1 : (upd H1 a (.ins U.e_Desk dx (fsD w' dl))) a = some (.ins U.e_Desk dx (fsD w' dl)) := upd_same
    have g2 : (upd H1 a (.ins U.e_Desk dx (fsD w' dl))) dl = some (.lst ys) := by rw [upd_ne hd.ne.symm]; exact s1 _ _ h2
    have m : SameT H (upd H1 a (.ins U.e_Desk dx (fsD w' dl))) := hd.tup K1
    refine ⟨_, rfl, a, _, dx, _, .ref dl, rfl, g1, U.k_Desk, U.na_Desk_deeds, rfl, .inl ⟨rfl, _, SqL.of g2⟩, _, rfl, _, rfl, x, y, rfl, fun p hpN => ?_⟩
    have s2 : Same (upd H1 a (.ins U.e_Desk dx (fsD w' dl))) (upd (upd H1 a (.ins U.e_Desk dx (fsD w' dl))) p (.tup [.int (mn x y), .int (mx x y)])) := same_upd hpN
    refine ⟨dl, ys, .ref p, rfl, rfl, s2 _ _ g2, by omega, ?_⟩
    refine q c qs _ ((K1.trans (Kp.of s2)).updD) (desk_deed (D1.same s2) (Paired.snoc (PairsAt.mono (m.trans (SameT.of s2)) hp) ⟨p, rfl, upd_same⟩) (by rw [List.length_append, List.length_singleton]; omega)) hQ
def spDkT (K : PySem.W.Frag) (C C1 : Addr) : Sp := fun vs H Q E => ∃ (a dx dl : Addr) (n : Nat) (ps ds : List Pr) (x y : Int), vs = [.ref a, .int x, .int y] ∧ DeskAt C H a dx dl n ps ds ∧ ds.length < 2000 ∧ (0 ≤ x ∧ x < n) ∧ (0 ≤ y ∧ y < n) ∧ x ≠ y ∧
  (pr x y ∉ ps → ∀ H', Same H H' → E (.ref C1) none H') ∧ (pr x y ∈ ps → ∀ (qs : List Pr) (H' : Hp), Kp a dl H H' → DeskAt C H' a dx dl n qs (ds ++ [pr x y]) → SubQ ps (pr x y) qs → Q .non H')
abbrev nmDkT : List Str := ["self", "a", "b"]
theorem scDkT : FnScope nmDkT ["self", "a", "b"] (defScope sDkT) := ⟨rfl, rfl, rfl, by decide +kernel, rfl, by decide +kernel, by decide +kernel⟩
set_option maxHeartbeats 4000000 in
theorem ok_DkT (U : Fs K mg) (T : Bl mg) : FnOk P w K mg base (CX3 P w) 6 U.aDkT U.dDkT ["self", "a", "b"] (spDkT K U.e_Desk U.e_NoTie) := by
  have GWoutT : FnOk P w K mg base (CX3 P w) 5 U.aWoutT U.dWoutT ["web", "a", "b"] (spWoutT K U.e_NoTie) := (ok_WoutT U T).mono (by decide)
  have GLess : FnOk P w K mg base CX0 5 U.aLess U.dLess ["a", "b"] spLess := (ok_Less U T).mono (by decide)
  refine U.FDkT.ok3 scDkT (fun vs H Q E h => ?_) (fun cdv A outer s H vs Q E hr hX h => ?_)
  · obtain ⟨a, dx, dl, n, ps, ds, x, y, rfl, _⟩ := h
    rfl
  · obtain ⟨a, dx, dl, n, ps, ds, x, y, rfl, hd, hl, hx, hy, hxy, qE, q⟩ := h
    refine ⟨_, (pss_cons (ps_fld (pv 0) (pe_call GWoutT hr rfl U.mWoutT U.FWoutT.kp U.bWoutT .nil hX.pass (pa_cons (pe_fld (pv 0) rfl) (pa_cons (pv 1) (pa_cons (pv 2) pa_nil)))) rfl)
      (pss_one (ps_expr (pe_bm PySem.F.plainAttrs_list PySem.F.slot_list_append PySem.F.type_list_append mt_append (pe_fld (pv 0) rfl) (pa_cons (pe_call GLess hr rfl U.mLess U.FLess.kp U.bLess .nil pass0 (pa_cons (pv 1) (pa_cons (pv 2) pa_nil))) pa_nil))))), ?_⟩
    have big : 3000 ≤ sizeLine := by decide
    obtain ⟨w, ys, h1, hw, h2, hp⟩ := hd.at_
    have hyl := Paired.length hp
    refine ⟨_, rfl, a, _, dx, _, w, rfl, h1, U.k_Desk, U.na_Desk_now, rfl, _, rfl, _, rfl, w, n, ps, x, y, rfl, hw, hd.good, hd.le, hx, hy, hxy, qE, fun c w' qs H1 s1 hw1 gq hQ => ?_⟩
    refine ⟨_, rfl, a, _, dx, _, rfl, s1 _ _ h1, U.k_Desk, U.na_Desk_now, (by show 2 < 1000; decide), ?_⟩
    have D1 : DeskAt U.e_Desk (upd H1 a (.ins U.e_Desk dx (fsD w' dl))) a dx dl n qs ds := desk_now h1 s1 hw1 h2 hp gq hd.le hd.ge hd.few hd.ne
    have K1 : Kp a dl H (upd H1 a (.ins U.e_Desk dx (fsD w' dl))) := (Kp.of s1).updA
    have g1 : (upd H1 a (.ins U.e_Desk dx (fsD w' dl))) a = some (.ins U.e_Desk dx (fsD w' dl)) := upd_same
    have g2 : (upd H1 a (.ins U.e_Desk dx (fsD w' dl))) dl = some (.lst ys) := by rw [upd_ne hd.ne.symm]; exact s1 _ _ h2
    have m : SameT H (upd H1 a (.ins U.e_Desk dx (fsD w' dl))) := hd.tup K1
    refine ⟨_, rfl, a, _, dx, _, .ref dl, rfl, g1, U.k_Desk, U.na_Desk_deeds, rfl, .inl ⟨rfl, _, SqL.of g2⟩, _, rfl, _, rfl, x, y, rfl, fun p hpN => ?_⟩
    have s2 : Same (upd H1 a (.ins U.e_Desk dx (fsD w' dl))) (upd (upd H1 a (.ins U.e_Desk dx (fsD w' dl))) p (.tup [.int (mn x y), .int (mx x y)])) := same_upd hpN
    refine ⟨dl, ys, .ref p, rfl, rfl, s2 _ _ g2, by omega, ?_⟩
    refine q c qs _ ((K1.trans (Kp.of s2)).updD) (desk_deed (D1.same s2) (Paired.snoc (PairsAt.mono (m.trans (SameT.of s2)) hp) ⟨p, rfl, upd_same⟩) (by rw [List.length_append, List.length_singleton]; omega)) hQ
/-- .. nothing to go back to, or the last deed undone -/
def spDkB (K : PySem.W.Frag) (C C1 : Addr) : Sp := fun vs H Q E => ∃ (a dx dl : Addr) (n : Nat) (ps ds : List Pr), vs = [.ref a] ∧ DeskAt C H a dx dl n ps ds ∧ (∀ t ∈ ds, 0 ≤ t.1 ∧ t.1 < t.2 ∧ t.2 < (n : Int)) ∧
  (ds = [] → ∀ H', Same H H' → E (.ref C1) none H') ∧ (∀ es t, ds = es ++ [t] → ∀ (qs : List Pr) (H' : Hp), Kp a dl H H' → DeskAt C H' a dx dl n qs es → (t ∈ ps → SubQ ps t qs) → (t ∉ ps → AddQ ps t qs) → Q .non H')
abbrev nmDkB : List Str := ["self", "tie", "a", "b"]
theorem scDkB : FnScope nmDkB ["self"] (defScope sDkB) := ⟨rfl, rfl, rfl, by decide +kernel, rfl, by decide +kernel, by decide +kernel⟩
set_option maxHeartbeats 4000000 in
theorem ok_DkB (U : Fs K mg) (T : Bl mg) : FnOk P w K mg base (CX3 P w) 6 U.aDkB U.dDkB ["self"] (spDkB K U.e_Desk U.e_NothingBack) := by
  have GWoutT : FnOk P w K mg base (CX3 P w) 5 U.aWoutT U.dWoutT ["web", "a", "b"] (spWoutT K U.e_NoTie) := (ok_WoutT U T).mono (by decide)
  have GWithT : FnOk P w K mg base (CX3 P w) 5 U.aWithT U.dWithT ["web", "a", "b"] (spWithT K U.e_NoTie) := (ok_WithT U T).mono (by decide)
  refine U.FDkB.ok3 scDkB (fun vs H Q E h => ?_) (fun cdv A outer s H vs Q E hr hX h => ?_)
  · obtain ⟨a, dx, dl, n, ps, ds, rfl, _⟩ := h
    rfl
  · obtain ⟨a, dx, dl, n, ps, ds, rfl, hd, hdl, qE, q⟩ := h
    refine ⟨_, (pss_cons (ps_if (pt_not (pt_truth (pe_fld (pv 0) rfl) (by intro _; rfl))) 
        (pss_one (ps_raise3 U.o_NothingBack hX hr.hd rfl)) pss_nil)
      (pss_cons (ps_set (i := 1) scDkB.nd rfl (Or.inl rfl) (pe_bm0 PySem.F.plainAttrs_list PySem.F.slot_list_pop PySem.F.type_list_pop mt_pop (pe_fld (pv 0) rfl)))
      (pss_cons (ps_asg (pv 1) (pg_tup rfl (pgs_cons (pg_name (i := 2) scDkB.nd rfl (Or.inl rfl)) (pgs_cons (pg_name (i := 3) scDkB.nd rfl (Or.inl rfl)) pgs_nil))))
      (pss_one (ps_if (pt_cmpR (op_inD hr.units) (pv 1) (pe_ix ix_tup (pe_fld (pv 0) rfl) pe_int (fun _ _ => rfl)) (by rfl)) 
        (pss_one (ps_fld (pv 0) (pe_call GWoutT hr rfl U.mWoutT U.FWoutT.kp U.bWoutT .nil hX.pass (pa_cons (pe_fld (pv 0) rfl) (pa_cons (pv 2) (pa_cons (pv 3) pa_nil)))) rfl)) 
        (pss_one (ps_fld (pv 0) (pe_call GWithT hr rfl U.mWithT U.FWithT.kp U.bWithT .nil hX.pass (pa_cons (pe_fld (pv 0) rfl) (pa_cons (pv 2) (pa_cons (pv 3) pa_nil)))) rfl))))))), ?_⟩
    have big : 3000 ≤ sizeLine := by decide
    have h190 := good_190 hd.good hd.le
    obtain ⟨w, ys, h1, hw, h2, hp⟩ := hd.at_
    have hyl := Paired.length hp
    refine ⟨_, rfl, a, _, dx, _, .ref dl, rfl, h1, U.k_Desk, U.na_Desk_deeds, rfl, !ys.isEmpty, .inl ⟨ys, SqL.of h2, rfl⟩, ?_⟩
    rcases List.eq_nil_or_concat ds with e | ⟨es, t, e⟩
    · subst e
      cases hp
      exact iteT (qE rfl H (Same.refl _))
    have e : ds = es ++ [t] := by rw [e, List.concat_eq_append]
    subst e
    rcases List.eq_nil_or_concat ys with e | ⟨zs, v, e⟩
    · rw [e, List.length_append] at hyl; simp at hyl
    have e : ys = zs ++ [v] := by rw [e, List.concat_eq_append]
    subst e
    refine iteB (c := false) (by cases zs <;> rfl) (iteF ?_)
    have hzl : zs.length = es.length := by rw [List.length_append, List.length_append] at hyl; simpa using hyl
    obtain ⟨p, r, hp9, rfl, hr⟩ := PairsAt.get hp (i := zs.length) (x := v) (by simp)
    have hpt : p = t := by rw [hzl, List.getElem?_append_right (Nat.le_refl _)] at hp9; simpa using hp9.symm
    subst hpt
    have hzp : PairsAt H zs es := by
      have := pairs_takeD zs.length hp
      rw [List.take_left', hzl, List.take_left'] at this
      · exact this
      · rfl
      · rfl
    obtain ⟨t0, t1, t2⟩ := hdl p (List.mem_append_right _ List.mem_cons_self)
    have ept : pr p.1 p.2 = p := by
      unfold pr mn mx
      refine Prod.ext ?_ ?_ <;> (show (if _ then _ else _) = _) <;> split <;> omega
    have hfew : es.length ≤ 2000 := by have := hd.few; rw [List.length_append] at this; omega
    refine ⟨_, rfl, a, _, dx, _, .ref dl, rfl, h1, U.k_Desk, U.na_Desk_deeds, rfl, .inl ⟨rfl, _, SqL.of h2⟩, dl, _, .ref r, rfl, rfl, h2, by simp, ?_⟩
    rw [List.dropLast_concat]
    have D1 : DeskAt U.e_Desk (upd H dl (.lst zs)) a dx dl n ps es := desk_deed hd hzp hfew
    have m1 : SameT H (upd H dl (.lst zs)) := SameT.lst h2
    have g1 : (upd H dl (.lst zs)) a = some (.ins U.e_Desk dx (fsD w dl)) := by rw [upd_ne hd.ne]; exact h1
    have g2 : (upd H dl (.lst zs)) dl = some (.lst zs) := upd_same
    have K1 : Kp a dl H (upd H dl (.lst zs)) := (Kp.refl a dl H).updD
    have hr1 := m1 _ _ hr
    have hw1 := hw.mono m1
    have hz1 := PairsAt.mono m1 hzp
    generalize (upd H dl (.lst zs)) = H1 at *
    obtain ⟨wa, wt, wys, rfl, hwa, hwt, hwps⟩ := id hw1
    refine ⟨_, rfl, r, _, rfl, SqT.of hr1, rfl, _, _, rfl, _, _, rfl, rfl, ?_⟩
    refine ⟨_, rfl, _, rfl, a, _, dx, _, .ref wa, rfl, g1, U.k_Desk, U.na_Desk_now, rfl, wa, _, _, _, rfl, rfl, SqT.of hwa, rfl, pd p, ps.map pd, dp_pd hr1, .inl (.tup (SqT.of hwt) (dpAll_pairs hwps)), rfl, canLay_pairs ps, by show 1 ≤ 60; decide, ?_⟩
    rw [if_neg Bool.false_ne_true, any_pd]
    refine ⟨_, rfl, ?_⟩
    refine ite2 (fun c => ?_) (fun c => ?_)
    · have c := of_decide_eq_true c
      refine ⟨_, rfl, a, _, dx, _, .ref wa, rfl, g1, U.k_Desk, U.na_Desk_now, rfl, _, rfl, _, rfl, .ref wa, n, ps, p.1, p.2, rfl, hw1, hd.good, hd.le, ⟨t0, by omega⟩, ⟨by omega, t2⟩, by omega, fun no => absurd c (by rw [ept] at no; exact no), fun _ w' qs H2 s2 hw2 gq hQ => ?_⟩
      rw [ept] at hQ
      refine ⟨_, rfl, a, _, dx, _, rfl, s2 _ _ g1, U.k_Desk, U.na_Desk_now, (by show 2 < 1000; decide), ?_⟩
      exact q es p rfl qs _ (K1.trans (Kp.of s2).updA) (desk_now g1 s2 hw2 g2 hz1 gq hd.le hd.ge hfew hd.ne) (fun _ => hQ) (fun no => absurd c no)
    · have c : p ∉ ps := of_decide_eq_false (Bool.eq_false_iff.mpr c)
      refine ⟨_, rfl, a, _, dx, _, .ref wa, rfl, g1, U.k_Desk, U.na_Desk_now, rfl, _, rfl, _, rfl, .ref wa, n, ps, p.1, p.2, rfl, hw1, hd.good, hd.le, ⟨t0, by omega⟩, ⟨by omega, t2⟩, by omega, fun yes => absurd (by rw [ept] at yes; exact yes) c, fun _ w' qs H2 s2 hw2 gq hQ => ?_⟩
      rw [ept] at hQ
      refine ⟨_, rfl, a, _, dx, _, rfl, s2 _ _ g1, U.k_Desk, U.na_Desk_now, (by show 2 < 1000; decide), ?_⟩
      exact q es p rfl qs _ (K1.trans (Kp.of s2).updA) (desk_now g1 s2 hw2 g2 hz1 gq hd.le hd.ge hfew hd.ne) (fun yes => absurd yes c) (fun _ => hQ)
end
end Wb

end
section
set_option Elab.async false
set_option linter.all false
set_option maxRecDepth 100000
namespace L2
open PySem PySem.Spec PyProof.Rows
/-! ### texts with fields -/
def tJn (acc : Str) : List TE → TE
  | [] => fun σ H Q => Q (.str acc) H
  | t :: ts => fun σ H Q => t σ H fun v H1 => ∃ y, v = .str y ∧ (acc ++ y).length ≤ sizeLine ∧ tJn (acc ++ y) ts σ H1 Q
inductive PEs (X : Cx) : List Expr → List TE → Prop
  | nil : PEs X [] []
  | cons {e : Expr} {t : TE} {es : List Expr} {ts : List TE} : PE X e t → PEs X es ts → PEs X (e :: es) (t :: ts)
section
variable {X : Cx}
/-- {e}, an int -/
def tFmt (te : TE) : TE := fun σ H Q => te σ H fun v H1 => ∃ i, v = .int i ∧ i.natAbs.log2 < 1920 ∧ Q (.str (toString i)) H1
end
end L2

end
section
set_option Elab.async false
set_option linter.all false
set_option maxRecDepth 100000
namespace HT
open PySem PyProof.Rows
/-- t <= u of tuples of ints -/
def lexLe : List Int → List Int → Bool
  | [], _ => true
  | _ :: _, [] => false
  | x :: xs, y :: ys => if x = y then lexLe xs ys else decide (x ≤ y)
section
open PySem.SeqAt
open PySem.AutoSeq1 (wpAny_loadPart')
open PySem.MeetsSeq PySem.MeetsSeq2 PySem.MeetsSeq3
end
section
variable {prog : Program} {w : World} {A : Around} {E : Value → Shared → Prop} {s : Shared}
end
end HT
namespace L2
open PySem PySem.Spec PyProof.Rows
section
variable {X : Cx}
def rLeT (K : PySem.W.Frag) : R2 := fun x y H Q => ∃ a b ns ms, x = .ref a ∧ y = .ref b ∧ SqT K H a (ns.map V.int) ∧ SqT K H b (ms.map V.int) ∧ Q (.bl (HT.lexLe ns ms)) H
/-- xs[::-1] of a list -/
def tRev (K : PySem.W.Frag) (te : TE) (ts : TO) : TE := fun σ H Q => te σ H fun x H1 => ts σ H1 fun k H2 => k = some (-1) ∧ ∃ a xs, x = .ref a ∧ SqL K H2 a xs ∧ ∀ p, H2 p = none → Q (.ref p) (upd H2 p (.lst xs.reverse))
theorem pe_rev {e st : Expr} {te : TE} {ts : TO} {p2 pos : Pos} (he : PE X e te) (hs : PO X (some st) ts) : PE X (.Subscript e (.Slice none none (some st) p2) pos) (tRev X.K te ts) := by
  intro pins s σ H Q I h
  refine Subscript_ (thn (he pins s σ H _ I h) fun v s1 ⟨x, H1, I1, r1, q1⟩ => ?_)
  refine wpAny_Slice ?_
  rw [evalPart_none]
  refine wpAny_pure (wpAny_pure (thn (hs pins s1 σ H1 _ I1 q1) fun vk s3 ⟨k, H3, I3, pk, q3⟩ => ?_))
  obtain ⟨rfl, a, xs, rfl, hx, q⟩ := q3
  cases r1
  have I4 : Inv X pins σ H3 { s3 with heap := s3.heap.push { cls := .type "slice", data := .fields #[.none, .none, vk] } } := I3.kept (t' := s3.toks) fun b ob q => Heap.get?_push_of_some _ q
  obtain ⟨its, r, ht, hz⟩ := I4.list hx
  have hlen := r.length
  show wpAny (model X.prog X.w) X.A (subscriptTail e (.Slice none none (some st) p2) (.ref a) (.ref s3.heap.objs.size)) (EP X pins σ Q) X.xe _
  refine tail_any (ops := [.ref a, .ref s3.heap.objs.size]) ht.isList.typeIs slot_list_getitem.lookup ?_ (by with_unfolding_all rfl)
  refine wpAny_getItem_list_slice ht.isList (Heap.IsSliceOf.new ..) .none .none pk (by decide) ?_ (by rw [List.size_toArray] <;> omega)
  rw [PySem.W.krv_pick]
  refine ⟨.ref _, _, I4.laid (t' := s3.toks) (o := .lst xs.reverse) (fun b ob q => Heap.get?_push_of_some _ q) (Nat.le_refl _) ?_, rfl, q _ (I4.hok.fresh (Nat.le_refl _))⟩
  exact ⟨by rw [List.length_reverse]; exact hz, its.reverse, 0, r.reverse, Heap.get?_push_size _ rfl⟩
end
end L2

end
section
set_option Elab.async false
set_option linter.all false
set_option maxRecDepth 100000
namespace Wb
open PySem L2
section
variable {P : Program} {w : World} {K : PySem.W.Frag} {mg : Str → Option Value} {base : Heap}
/-! ### the law's stream -/
/-- a list of ints that the law pops -/
def XsAt (H : Hp) (p : Addr) : Prop := ∃ zs : List Int, H p = some (.lst (zs.map V.int)) ∧ zs.length ≤ 1000
theorem XsAt.same {H H' : Hp} {p : Addr} (h : XsAt H p) (s : Same H H') : XsAt H' p := let ⟨z, e, l⟩ := h; ⟨z, s _ _ e, l⟩
theorem XsAt.ne {H : Hp} {p a : Addr} (h : XsAt H p) (n : H a = none) : p ≠ a := let ⟨_, e, _⟩ := h; ne_of_none e n
theorem XsAt.upd {H : Hp} {p a : Addr} {o : HO} (h : XsAt H p) (n : p ≠ a) : XsAt (upd H a o) p := let ⟨z, e, l⟩ := h; ⟨z, by rw [upd_ne n]; exact e, l⟩
theorem XsAt.tup {H H' : Hp} {p : Addr} (h : XsAt H p) (s : SameBut p H H') : SameT H H' := let ⟨_, e, _⟩ := h; SameBut.tup s e
theorem XsAt.back {H H' : Hp} {p a : Addr} (h : XsAt H' p) (s : SameBut p H H') (n : H' a = none) : H a = none := by
  cases z : H a with
  | none => rfl
  | some o =>
    have := s a o z (h.ne n).symm
    rw [n] at this; cases this
def spCellAt (K : PySem.W.Frag) : Sp := fun vs H Q _ => ∃ (a : Addr) (ns : List Int) (k : Int), vs = [.ref a, .int k] ∧ SqL K H a (ns.map V.int) ∧ 0 ≤ k ∧ ∀ z : Int, Q (.int z) H
abbrev nmCellAt : List Str := ["_law_script", "_law_k"]
theorem scCellAt : FnScope nmCellAt ["_law_script", "_law_k"] (defScope sCellAt) := ⟨rfl, rfl, rfl, by decide +kernel, rfl, by decide +kernel, by decide +kernel⟩
theorem ok_CellAt (U : Fs K mg) (T : Bl mg) : FnOk P w K mg base CX0 1 U.aCellAt U.dCellAt ["_law_script", "_law_k"] (spCellAt K) := by
  refine U.FCellAt.ok scCellAt (fun vs H Q E h => ?_) (fun cdv A outer s H vs Q E hr h => ?_)
  · obtain ⟨a, ns, k, rfl, _⟩ := h
    rfl
  · obtain ⟨a, ns, k, rfl, hS, hk, q⟩ := h
    refine ⟨_, (pss_cons (ps_if (pt_cmpR op_lt (pv 1) (pe_callB call_len_seq (by rfl) T.len PySem.boot_len (pa_cons (pv 0) pa_nil)) (nomark _)) 
        (pss_one (ps_ret (pe_ix ix_list (pv 0) (pv 1) (fun _ _ => rfl)))) pss_nil)
      (pss_one (ps_ret pe_int))), ?_⟩
    refine ⟨_, rfl, _, rfl, a, _, rfl, .inl hS, _, _, rfl, rfl, _, rfl, ?_⟩
    refine ite2 (fun c => ?_) (fun _ => q 0)
    have c : k < ((ns.map V.int).length : Int) := of_decide_eq_true c
    rw [List.length_map] at c
    obtain ⟨j, rfl⟩ := Int.eq_ofNat_of_zero_le hk
    have hj : j < ns.length := by omega
    exact ⟨_, rfl, _, rfl, a, _, _, _, rfl, rfl, hS, atI_nat (by rw [List.getElem?_map, List.getElem?_eq_getElem hj]; rfl), q _⟩
def spStream : Sp := fun vs H Q _ => ∃ (c : Int) (m : Nat), vs = [.int c, .int m] ∧ m ≤ 1000 ∧ ∀ (p : Addr) (H' : Hp), H p = none → Same H H' → XsAt H' p → Q (.ref p) H'
abbrev nmStream : List Str := ["_law_cell", "_law_many", "_law_found", "_law_k", "_law_number", "_law_other"]
theorem scStream : FnScope nmStream ["_law_cell", "_law_many"] (defScope sStream) := ⟨rfl, rfl, rfl, by decide +kernel, rfl, by decide +kernel, by decide +kernel⟩
set_option maxHeartbeats 4000000 in
theorem ok_Stream (U : Fs K mg) (T : Bl mg) : FnOk P w K mg base CX0 1 U.aStream U.dStream ["_law_cell", "_law_many"] spStream := by
  refine U.FStream.ok scStream (fun vs H Q E h => ?_) (fun cdv A outer s H vs Q E hr h => ?_)
  · obtain ⟨c, m, rfl, _⟩ := h
    rfl
  · obtain ⟨c, m, rfl, hm, q⟩ := h
    refine ⟨_, (pss_cons (ps_set (i := 2) scStream.nd rfl (Or.inl rfl) (pe_lst pa_nil))
      (pss_cons (ps_if (pt_cmpR op_ge (pv 0) (pe_op op_pow pe_int pe_int) (nomark _)) 
        (pss_cons (ps_for PassesOwn.never rfl (pi_range1 rfl T.range (pa_cons (pv 1) pa_nil)) (pg_name (i := 3) scStream.nd rfl (Or.inl rfl)) 
          (pss_cons (ps_expr (pe_bm PySem.F.plainAttrs_list PySem.F.slot_list_append PySem.F.type_list_append mt_append (pv 2) (pa_cons (pe_op op_mod (pv 0) pe_int) pa_nil)))
          (pss_one (ps_set (i := 0) scStream.nd rfl (Or.inl rfl) (pe_op op_fdiv (pv 0) pe_int)))))
        (pss_one (ps_ret (pe_rev (pv 2) (po_some (pe_un un_neg pe_int)))))) pss_nil)
      (pss_cons (ps_set (i := 4) scStream.nd rfl (Or.inl rfl) (pe_op op_add (pe_op op_mod (pv 0) pe_int) pe_int))
      (pss_cons (ps_set (i := 5) scStream.nd rfl (Or.inl rfl) (pe_op op_add (pe_op op_mod (pv 0) pe_int) pe_int))
      (pss_cons (ps_for PassesOwn.never rfl (pi_range1 rfl T.range (pa_cons (pv 1) pa_nil)) (pg_name (i := 3) scStream.nd rfl (Or.inl rfl)) 
        (pss_cons (ps_set (i := 4) scStream.nd rfl (Or.inl rfl) (pe_op op_mod (pe_op op_add (pe_op op_add (pe_op op_mul (pv 4) pe_int) (pe_op op_mul (pv 3) (pv 3))) pe_int) pe_int))
        (pss_cons (ps_set (i := 5) scStream.nd rfl (Or.inl rfl) (pe_op op_mod (pe_op op_add (pe_op op_mul (pv 5) pe_int) (pe_op op_mod (pv 4) pe_int)) pe_int))
        (pss_one (ps_expr (pe_bm PySem.F.plainAttrs_list PySem.F.slot_list_append PySem.F.type_list_append mt_append (pv 2) (pa_cons (pe_op op_fdiv (pe_op op_add (pv 4) (pe_op op_mul pe_int (pv 5))) pe_int) pa_nil)))))))
      (pss_one (ps_ret (pv 2)))))))), ?_⟩
    have big : 1000 ≤ sizeLine := by decide
    refine ⟨by show 0 ≤ sizeLine; decide, fun F hF => ?_⟩
    have sF : Same H (upd H F (.lst [])) := same_upd hF
    have gF : (upd H F (.lst [])) F = some (.lst []) := upd_same
    generalize (upd H F (.lst [])) = H1 at *
    refine ⟨_, rfl, _, _, rfl, rfl, ⟨by decide, by decide, by decide⟩, _, _, rfl, rfl, _, rfl, ?_⟩
    refine ite2 (fun _ => ?_) (fun _ => ?_)
    · refine ⟨_, rfl, _, rfl, by omega, by omega, for_range (lo := 0) (n := ((m : Nat) : Int).toNat)
        (fun i σ H2 => ∃ (c : Int) (zs : List Int) (o3 : Option V), σ = [some (.int c), some (.int m), some (.ref F), o3, none, none] ∧ Same H H2 ∧ H2 F = some (.lst (zs.map V.int)) ∧ zs.length = i)
        ⟨c, [], _, rfl, sF, gF, rfl⟩ ?_ ?_⟩
      · rintro i σ H2 hi ⟨c, zs, o3, rfl, s2, hF2, hl⟩
        rw [Int.toNat_natCast] at hi
        refine ⟨_, rfl, .inl ⟨rfl, _, SqL.of hF2⟩, _, rfl, _, _, rfl, rfl, (by show (0 : Int) < 1000; decide), F, _, _, rfl, rfl, hF2, by rw [List.length_map]; omega, _, rfl, _, _, rfl, rfl, ⟨by decide, by decide⟩, ?_⟩
        exact ⟨_, zs ++ [c % 1000], _, rfl, s2.updN hF, by rw [upd_same, List.map_append]; rfl, by rw [List.length_append, hl]; rfl⟩
      · rintro σ H2 ⟨c, zs, o3, rfl, s2, hF2, hl⟩
        rw [Int.toNat_natCast] at hl
        refine ⟨_, rfl, _, rfl, _, rfl, rfl, F, _, rfl, SqL.of hF2, fun p hp => ?_⟩
        exact q p _ (s2.free hp) (s2.upd hp) ⟨zs.reverse, by rw [upd_same, List.map_reverse], by rw [List.length_reverse]; omega⟩
    · refine ⟨_, rfl, _, _, rfl, rfl, (by show (0 : Int) < 2147483647; decide), _, _, rfl, rfl, _, rfl, _, _, rfl, rfl, (by show (0 : Int) < 2147483629; decide), _, _, rfl, rfl, ?_⟩
      refine ⟨_, rfl, _, rfl, by omega, by omega, for_range (lo := 0) (n := ((m : Nat) : Int).toNat)
        (fun i σ H2 => ∃ (x y : Int) (zs : List Int) (o3 : Option V), σ = [some (.int c), some (.int m), some (.ref F), o3, some (.int x), some (.int y)] ∧ Same H H2 ∧ H2 F = some (.lst (zs.map V.int)) ∧ zs.length = i)
        ⟨_, _, [], _, rfl, sF, gF, rfl⟩ ?_ ?_⟩
      · rintro i σ H2 hi ⟨x, y, zs, o3, rfl, s2, hF2, hl⟩
        rw [Int.toNat_natCast] at hi
        have k0 : 0 ≤ 0 + (i : Int) ∧ 0 + (i : Int) < 1000 := by omega
        generalize 0 + (i : Int) = k at k0 ⊢
        refine ⟨_, rfl, _, _, rfl, rfl, .inr ⟨by decide, by decide⟩, _, rfl, _, rfl, _, _, rfl, rfl, .inl ⟨by omega, by omega⟩, _, _, rfl, rfl, _, _, rfl, rfl, _, _, rfl, rfl, (by show (0 : Int) < 2147483647; decide), ?_⟩
        refine ⟨_, rfl, _, _, rfl, rfl, .inr ⟨by decide, by decide⟩, _, rfl, _, _, rfl, rfl, (by show (0 : Int) < 8191; decide), _, _, rfl, rfl, _, _, rfl, rfl, (by show (0 : Int) < 2147483629; decide), ?_⟩
        refine ⟨_, rfl, .inl ⟨rfl, _, SqL.of hF2⟩, _, rfl, _, rfl, _, _, rfl, rfl, .inl ⟨by decide, by decide⟩, _, _, rfl, rfl, _, _, rfl, rfl, ⟨by decide, by decide⟩, F, _, _, rfl, rfl, hF2, by rw [List.length_map]; omega, ?_⟩
        exact ⟨_, _, zs ++ [_], _, rfl, s2.updN hF, by rw [upd_same, List.map_append]; rfl, by rw [List.length_append, hl]; rfl⟩
      · rintro σ H2 ⟨x, y, zs, o3, rfl, s2, hF2, hl⟩
        rw [Int.toNat_natCast] at hl
        exact ⟨_, rfl, q F _ hF s2 ⟨zs, hF2, by omega⟩⟩
def spNextX : Sp := fun vs H Q _ => ∃ (p : Addr) (m : Int), vs = [.ref p, .int m] ∧ XsAt H p ∧ 0 < m ∧ ∀ (d : Int) (H' : Hp), 0 ≤ d → d < m → XsAt H' p → SameBut p H H' → Q (.int d) H'
abbrev nmNext : List Str := ["_law_xs", "_law_many"]
theorem scNext : FnScope nmNext ["_law_xs", "_law_many"] (defScope sNext) := ⟨rfl, rfl, rfl, by decide +kernel, rfl, by decide +kernel, by decide +kernel⟩
theorem ok_Next (U : Fs K mg) (T : Bl mg) : FnOk P w K mg base CX0 1 U.aNext U.dNext ["_law_xs", "_law_many"] spNextX := by
  refine U.FNext.ok scNext (fun vs H Q E h => ?_) (fun cdv A outer s H vs Q E hr h => ?_)
  · obtain ⟨p, m, rfl, _⟩ := h
    rfl
  · obtain ⟨p, m, rfl, hx, hm, q⟩ := h
    refine ⟨_, (pss_cons (ps_if (pt_cmpR (op_eqE hr.units) (pv 0) (pe_lst pa_nil) (nomark _)) 
        (pss_one (ps_ret pe_int)) pss_nil)
      (pss_one (ps_ret (pe_op op_mod (pe_bm0 PySem.F.plainAttrs_list PySem.F.slot_list_pop PySem.F.type_list_pop mt_pop (pv 0)) (pv 1))))), ?_⟩
    obtain ⟨zs, hp, hl⟩ := id hx
    refine ⟨_, rfl, by show 0 ≤ sizeLine; decide, fun F hF => ?_⟩
    have npF := hx.ne hF
    have s1 : Same H (upd H F (.lst [])) := same_upd hF
    have gF : (upd H F (.lst [])) F = some (.lst []) := upd_same
    generalize (upd H F (.lst [])) = H1 at *
    have hp1 := s1 _ _ hp
    refine ⟨p, F, _, rfl, rfl, SqL.of hp1, SqL.of gF, _, rfl, ?_⟩
    refine ite2 (fun _ => q 0 H1 (Int.le_refl _) hm (hx.same s1) s1.but) (fun c => ?_)
    have c : (zs.map V.int).length ≠ 0 := of_decide_eq_false (Bool.eq_false_iff.mpr c)
    rw [List.length_map] at c
    rcases List.eq_nil_or_concat zs with e | ⟨k, z, e⟩
    · subst e; exact absurd rfl c
    rw [List.concat_eq_append] at e
    subst e
    have h0 := Int.emod_nonneg z (show m ≠ 0 by omega)
    have h1 := Int.emod_lt_of_pos z hm
    refine ⟨_, rfl, .inl ⟨rfl, _, SqL.of hp1⟩, p, _, .int z, rfl, rfl, hp1, by simp, _, rfl, _, _, rfl, rfl, hm, ?_⟩
    exact q _ _ h0 h1 ⟨k, by rw [upd_same]; simp, by rw [List.length_append] at hl; omega⟩ (SameBut.upd s1.but)
end
end Wb

end
section
set_option Elab.async false
set_option linter.all false
set_option maxRecDepth 100000
namespace Wb
open PySem L2
section
variable {P : Program} {w : World} {K : PySem.W.Frag} {mg : Str → Option Value} {base : Heap}
/-! ### _law_done -/
theorem vals6 {a b c d e f : Addr} : ∀ zs, Vals [.ref a, .ref b, .ref c, .ref d, .ref e, .ref f] zs → zs = [.ref a, .ref b, .ref c, .ref d, .ref e, .ref f] := fun zs h => by
  cases h with
  | cons r1 h => cases h with
    | cons r2 h => cases h with
      | cons r3 h => cases h with
        | cons r4 h => cases h with
          | cons r5 h => cases h with
            | cons r6 h => cases h; cases r1; cases r2; cases r3; cases r4; cases r5; cases r6; rfl
theorem vals5 {a b c d e : Addr} : ∀ zs, Vals [.ref a, .ref b, .ref c, .ref d, .ref e] zs → zs = [.ref a, .ref b, .ref c, .ref d, .ref e] := fun zs h => by
  cases h with
  | cons r1 h => cases h with
    | cons r2 h => cases h with
      | cons r3 h => cases h with
        | cons r4 h => cases h with
          | cons r5 h => cases h; cases r1; cases r2; cases r3; cases r4; cases r5; rfl
theorem kit_self (a : Addr) : PySem.W.kitOne K (.ref a) (.ref a) = some true := by
  unfold PySem.W.kitOne
  rw [if_pos (by simp)]
theorem peQ {X : Cx} {K : PySem.W.Frag} {e : PySem.Expr} {t : PySem.W.Frag → TE} (hK : X.K = K) (h : PE X e (t X.K)) : PE X e (t K) := hK ▸ h
inductive DoneR (ps ds : List Pr) : Str → Pr → Str → List Pr → List Pr → Prop
  | putN {t : Pr} : t ∈ ps → DoneR ps ds "put" t "tie" ps ds
  | putY {t : Pr} {qs : List Pr} : t ∉ ps → AddQ ps t qs → DoneR ps ds "put" t "done" qs (ds ++ [t])
  | takeN {t : Pr} : t ∉ ps → DoneR ps ds "take" t "tie" ps ds
  | takeY {t : Pr} {qs : List Pr} : t ∈ ps → SubQ ps t qs → DoneR ps ds "take" t "done" qs (ds ++ [t])
  | backN {t : Pr} : ds = [] → DoneR ps ds "back" t "back" ps ds
  | backY {t u : Pr} {qs es : List Pr} : ds = es ++ [u] → (u ∈ ps → SubQ ps u qs) → (u ∉ ps → AddQ ps u qs) → DoneR ps ds "back" t "done" qs es
def InR (n : Nat) (ds : List Pr) : Prop := ∀ t ∈ ds, 0 ≤ t.1 ∧ t.1 < t.2 ∧ t.2 < (n : Int)
def spLdone (K : PySem.W.Frag) (C : Addr) : Sp := fun vs H Q _ => ∃ (a dx dl : Addr) (n : Nat) (ps ds : List Pr) (wd : Str) (x y : Int), vs = [.ref a, .str wd, .int x, .int y] ∧ DeskAt C H a dx dl n ps ds ∧ ds.length < 2000 ∧ InR n ds ∧
  (wd = "back" ∨ ((wd = "put" ∨ wd = "take") ∧ (0 ≤ x ∧ x < n) ∧ (0 ≤ y ∧ y < n) ∧ x ≠ y)) ∧
  ∀ (ans : Str) (qs es : List Pr) (H' : Hp), DoneR ps ds wd (pr x y) ans qs es → Kp a dl H H' → DeskAt C H' a dx dl n qs es → Q (.str ans) H'
abbrev nmLdone : List Str := ["_law_desk", "_law_word", "_law_a", "_law_b", "error", "_law_told"]
theorem scLdone : FnScope nmLdone ["_law_desk", "_law_word", "_law_a", "_law_b"] (defScope sLdone) := ⟨rfl, rfl, rfl, by decide +kernel, rfl, by decide +kernel, by decide +kernel⟩
set_option maxHeartbeats 4000000 in
theorem ok_Ldone (U : Fs K mg) (T : Bl mg) : FnOk P w K mg base CX0 7 U.aLdone U.dLdone ["_law_desk", "_law_word", "_law_a", "_law_b"] (spLdone K U.e_Desk) := by
  have GDkP : FnOk P w K mg base (CX3 P w) 6 U.aDkP U.dDkP ["self", "a", "b"] (spDkP K U.e_Desk U.e_NoTie) := (ok_DkP U T).mono (by decide)
  have GDkT : FnOk P w K mg base (CX3 P w) 6 U.aDkT U.dDkT ["self", "a", "b"] (spDkT K U.e_Desk U.e_NoTie) := (ok_DkT U T).mono (by decide)
  have GDkB : FnOk P w K mg base (CX3 P w) 6 U.aDkB U.dDkB ["self"] (spDkB K U.e_Desk U.e_NothingBack) := (ok_DkB U T).mono (by decide)
  refine U.FLdone.ok scLdone (fun vs H Q E h => ?_) (fun cdv A outer s H vs Q E hr h => ?_)
  · obtain ⟨a, dx, dl, n, ps, ds, wd, x, y, rfl, _⟩ := h
    rfl
  · obtain ⟨a, dx, dl, n, ps, ds, wd, x, y, rfl, hd, hl, hI, hW, q⟩ := h
    refine ⟨_, (pss_cons (ps_tryC rfl ⟨rfl, rfl⟩ (by intro z; cases z) (fun W pn E hp => 
        (pss_cons (ps_if (PW.pt (pw_and (pt_cmpR op_eq (pv 1) pe_str (nomark _)) (pw_and1 (pt_cmpR op_notN (pe_meth (pv 0) U.k_Desk U.mt_Desk_put GDkP hr U.bDkP .nil hp (pa_cons (pv 2) (pa_cons (pv 3) pa_nil))) pe_non (nomark _))))) 
          (pss_one (ps_ret pe_str)) pss_nil)
        (pss_cons (ps_if (PW.pt (pw_and (pt_cmpR op_eq (pv 1) pe_str (nomark _)) (pw_and1 (pt_cmpR op_notN (pe_meth (pv 0) U.k_Desk U.mt_Desk_take GDkT hr U.bDkT .nil hp (pa_cons (pv 2) (pa_cons (pv 3) pa_nil))) pe_non (nomark _))))) 
          (pss_one (ps_ret pe_str)) pss_nil)
        (pss_one (ps_if (PW.pt (pw_and (pt_cmpR op_eq (pv 1) pe_str (nomark _)) (pw_and1 (pt_cmpR op_notN (pe_meth0 (pv 0) U.k_Desk U.mt_Desk_back GDkB hr U.bDkB .nil hp) pe_non (nomark _))))) 
          (pss_one (ps_ret pe_str)) pss_nil))))) (hs_as (i := 4) U.o_RingsError.cat rfl rfl scLdone.nd rfl rfl (fun x => 
        (pss_cons (ps_if (pt_val (pe_callB (call_isiTQ (K := K) rfl) (by rfl) T.isinstance (by decide +kernel) (pa_cons (pv 4) (pa_cons (pe_tup (PA1.u (pa1_cons (pe_glob (v := .ref U.r_NoHeld) (by rfl) U.h_NoHeld rfl) (pa1_cons (pe_glob (v := .ref U.r_NoNumber) (by rfl) U.h_NoNumber rfl) (pa1_cons (pe_glob (v := .ref U.r_NoPut) (by rfl) U.h_NoPut rfl) (pa1_cons (pe_glob (v := .ref U.r_NoRing) (by rfl) U.h_NoRing rfl) (pa1_cons (pe_glob (v := .ref U.r_NoRow) (by rfl) U.h_NoRow rfl) (pa1_cons (pe_glob (v := .ref U.r_NoText) (by rfl) U.h_NoText rfl) pa1_nil)))))))) pa_nil)))) 
          (pss_one (ps_ret pe_str)) pss_nil)
        (pss_cons (ps_if (PW.pt (pw_or (pt_val (pe_callB (call_isiTQ (K := K) rfl) (by rfl) T.isinstance (by decide +kernel) (pa_cons (pv 4) (pa_cons (pe_tup (PA1.u (pa1_cons (pe_glob (v := .ref U.r_NoWay) (by rfl) U.h_NoWay rfl) (pa1_cons (pe_glob (v := .ref U.e_NoWeb) (by rfl) U.o_NoWeb.nm rfl) (pa1_cons (pe_glob (v := .ref U.r_NotRich) (by rfl) U.h_NotRich rfl) (pa1_cons (pe_glob (v := .ref U.r_TooFew) (by rfl) U.h_TooFew rfl) (pa1_cons (pe_glob (v := .ref U.r_TooGreat) (by rfl) U.h_TooGreat rfl) pa1_nil))))))) pa_nil)))) (pw_or1 (pt_not (pt_val (pe_callB (call_isiQ (K := K) rfl) (by rfl) T.isinstance (by decide +kernel) (pa_cons (pv 4) (pa_cons (pe_bltn (v := .ty "ValueError") (by rfl) T.ValueError (by decide +kernel) rfl) pa_nil)))))))) 
          (pss_one (ps_ret pe_str)) pss_nil)
        (pss_cons (ps_set (i := 5) scLdone.nd rfl (Or.inl rfl) (pe_lst (pa_cons (pe_callB (call_isiQ (K := K) rfl) (by rfl) T.isinstance (by decide +kernel) (pa_cons (pv 4) (pa_cons (pe_glob (v := .ref U.e_NoTie) (by rfl) U.o_NoTie.nm rfl) pa_nil))) (pa_cons (pe_callB (call_isiQ (K := K) rfl) (by rfl) T.isinstance (by decide +kernel) (pa_cons (pv 4) (pa_cons (pe_glob (v := .ref U.e_NothingBack) (by rfl) U.o_NothingBack.nm rfl) pa_nil))) pa_nil))))
        (pss_cons (ps_if (pt_cmpR op_ne (peQ (t := fun K => tBM K "list" (rCountB K) (tVar 5) (tCons (tC (.bl true)) tNil)) (K := K) rfl (pe_bm PySem.F.plainAttrs_list PySem.F.slot_list_count PySem.F.type_list_count mt_countB (pv 5) (pa_cons (pe_bl) pa_nil))) pe_int (nomark _)) 
          (pss_one (ps_ret pe_str)) pss_nil)
        (pss_one (ps_ret (peQ (t := fun K => tOp (rIxL K) (tLst (tCons (tC (.str "tie")) (tCons (tC (.str "back")) tNil))) (tBM K "list" (rIndex K) (tVar 5) (tCons (tC (.bl true)) tNil))) (K := K) rfl (pe_ix ix_list (pe_lst (pa_cons pe_str (pa_cons pe_str pa_nil))) (pe_bm PySem.F.plainAttrs_list PySem.F.slot_list_index PySem.F.type_list_index mt_index (pv 5) (pa_cons (pe_bl) pa_nil)) (fun _ _ => rfl)))))))))) hs_nil))
      (pss_one (ps_ret pe_str))), ?_⟩
    refine ⟨fun c dd H' => dd = none ∧ Same H H' ∧ ((c = .ref U.e_NoTie ∧ DoneR ps ds wd (pr x y) "tie" ps ds) ∨ (c = .ref U.e_NothingBack ∧ DoneR ps ds wd (pr x y) "back" ps ds)), ?_, fun c dd H' hE => ?_⟩
    · rcases hW with rfl | ⟨rfl | rfl, hx, hy, hxy⟩
      · refine ⟨_, rfl, rfl, _, rfl, iteB (c := false) (by rfl) (iteF ?_)⟩
        refine ⟨_, rfl, rfl, _, rfl, iteB (c := false) (by rfl) (iteF ?_)⟩
        refine ⟨_, rfl, rfl, _, rfl, iteB (c := true) (by rfl) (iteT ?_)⟩
        refine ⟨_, rfl, a, _, _, rfl, (hd.at_).choose_spec.choose_spec.1, rfl, a, dx, dl, n, ps, ds, rfl, hd, hI, fun e H' s => ⟨rfl, s, .inr ⟨rfl, .backN e⟩⟩, fun es t e qs H' k d h1 h2 => ⟨rfl, _, rfl, iteF ?_⟩⟩
        exact q "done" qs es H' (.backY e h1 h2) k d
      · refine ⟨_, rfl, rfl, _, rfl, iteB (c := true) (by rfl) (iteT ?_)⟩
        refine ⟨_, rfl, a, _, _, rfl, (hd.at_).choose_spec.choose_spec.1, rfl, _, rfl, _, rfl, a, dx, dl, n, ps, ds, x, y, rfl, hd, hl, hx, hy, hxy, fun c H' s => ⟨rfl, s, .inl ⟨rfl, .putN c⟩⟩, fun c qs H' k d hQ => ⟨rfl, _, rfl, iteF ?_⟩⟩
        refine ⟨_, rfl, rfl, _, rfl, iteB (c := false) (by rfl) (iteF ?_)⟩
        refine ⟨_, rfl, rfl, _, rfl, iteB (c := false) (by rfl) (iteF ?_)⟩
        exact q "done" qs _ H' (.putY c hQ) k d
      · refine ⟨_, rfl, rfl, _, rfl, iteB (c := false) (by rfl) (iteF ?_)⟩
        refine ⟨_, rfl, rfl, _, rfl, iteB (c := true) (by rfl) (iteT ?_)⟩
        refine ⟨_, rfl, a, _, _, rfl, (hd.at_).choose_spec.choose_spec.1, rfl, _, rfl, _, rfl, a, dx, dl, n, ps, ds, x, y, rfl, hd, hl, hx, hy, hxy, fun c H' s => ⟨rfl, s, .inl ⟨rfl, .takeN c⟩⟩, fun c qs H' k d hQ => ⟨rfl, _, rfl, iteF ?_⟩⟩
        refine ⟨_, rfl, rfl, _, rfl, iteB (c := false) (by rfl) (iteF ?_)⟩
        exact q "done" qs _ H' (.takeY c hQ) k d
    · obtain ⟨rfl, s, hE⟩ := hE
      rcases hE with ⟨rfl, hD⟩ | ⟨rfl, hD⟩
      · refine ⟨_, rfl, .inl ⟨U.mi_NoTie, fun x0 hxN => ?_⟩⟩
        have s1 : Same H' (upd H' x0 (isD x0 U.e_NoTie none)) := same_upd hxN
        have g1 : (upd H' x0 (isD x0 U.e_NoTie none)) x0 = some (isD x0 U.e_NoTie none) := upd_same
        generalize (upd H' x0 (isD x0 U.e_NoTie none)) = H1 at *
        refine ⟨_, rfl, by show 6 ≤ sizeLine; decide, fun t1 h1 => ?_⟩
        have s2 : Same H1 (upd H1 t1 (.tup [V.ref U.r_NoHeld, .ref U.r_NoNumber, .ref U.r_NoPut, .ref U.r_NoRing, .ref U.r_NoRow, .ref U.r_NoText])) := same_upd h1
        refine ⟨x0, _, _, t1, _, _, false, rfl, s2 _ _ g1, upd_same, U.xc_NoTie, vals6, U.a1_NoTie, ?_⟩
        refine ⟨_, rfl, iteF ?_⟩
        generalize (upd H1 t1 (.tup [V.ref U.r_NoHeld, .ref U.r_NoNumber, .ref U.r_NoPut, .ref U.r_NoRing, .ref U.r_NoRow, .ref U.r_NoText])) = H2 at *
        refine ⟨_, rfl, by show 5 ≤ sizeLine; decide, fun t2 h2 => ?_⟩
        have s3 : Same H2 (upd H2 t2 (.tup [V.ref U.r_NoWay, .ref U.e_NoWeb, .ref U.r_NotRich, .ref U.r_TooFew, .ref U.r_TooGreat])) := same_upd h2
        refine ⟨x0, _, _, t2, _, _, false, rfl, s3 _ _ (s2 _ _ g1), upd_same, U.xc_NoTie, vals5, U.a2_NoTie, ?_⟩
        refine ⟨_, rfl, iteF ?_⟩
        generalize (upd H2 t2 (.tup [V.ref U.r_NoWay, .ref U.e_NoWeb, .ref U.r_NotRich, .ref U.r_TooFew, .ref U.r_TooGreat])) = H3 at *
        have g3 := s3 _ _ (s2 _ _ g1)
        refine ⟨_, rfl, x0, _, _, _, _, true, rfl, g3, U.xc_NoTie, rfl, (fun z h => h), U.kv_NoTie, _, rfl, iteF ?_⟩
        refine ⟨_, rfl, x0, _, _, _, _, true, rfl, g3, U.xc_NoTie, rfl, (fun z h => h), kit_self _, _, rfl, x0, _, _, _, _, false, rfl, g3, U.xc_NoTie, rfl, (fun z h => h), U.k_NoTie_NothingBack, two_le, fun l hl => ?_⟩
        have s4 : Same H3 (upd H3 l (.lst [V.bl true, .bl false])) := same_upd hl
        have g4 : (upd H3 l (.lst [V.bl true, .bl false])) l = some (.lst [V.bl true, .bl false]) := upd_same
        generalize (upd H3 l (.lst [V.bl true, .bl false])) = H4 at *
        refine ⟨_, rfl, .inl ⟨rfl, _, SqL.of g4⟩, l, [true, false], true, rfl, rfl, g4, rfl, _, rfl, ?_⟩
        refine iteB (c := false) (by rfl) (iteF ?_)
        refine ⟨two_le, fun m hm => ?_⟩
        have s5 : Same H4 (upd H4 m (.lst [V.str "tie", .str "back"])) := same_upd hm
        have g5 := s5 _ _ g4
        have no1 : ∀ (m : Nat) (z' : V), m < 1 → [V.bl false, V.bl true][m]? = some z' → eqV z' (.bl true) = false := fun m z' hm e => by
          obtain rfl : m = 0 := by omega
          simp at e
          subst e
          rfl
        refine ⟨_, rfl, .inl ⟨rfl, _, SqL.of g5⟩, l, _, .bl true, 0, .bl true, rfl, rfl, SqL.of g5, rfl, rfl, rfl, rfl, (fun m z' hm _ => absurd hm (Nat.not_lt_zero m)), m, _, _, _, rfl, rfl, SqL.of upd_same, rfl, ?_⟩
        have S := ((((s.trans s1).trans s2).trans s3).trans s4).trans s5
        exact q "tie" ps ds _ hD (Kp.of S) (hd.same S)
      · refine ⟨_, rfl, .inl ⟨U.mi_NothingBack, fun x0 hxN => ?_⟩⟩
        have s1 : Same H' (upd H' x0 (isD x0 U.e_NothingBack none)) := same_upd hxN
        have g1 : (upd H' x0 (isD x0 U.e_NothingBack none)) x0 = some (isD x0 U.e_NothingBack none) := upd_same
        generalize (upd H' x0 (isD x0 U.e_NothingBack none)) = H1 at *
        refine ⟨_, rfl, by show 6 ≤ sizeLine; decide, fun t1 h1 => ?_⟩
        have s2 : Same H1 (upd H1 t1 (.tup [V.ref U.r_NoHeld, .ref U.r_NoNumber, .ref U.r_NoPut, .ref U.r_NoRing, .ref U.r_NoRow, .ref U.r_NoText])) := same_upd h1
        refine ⟨x0, _, _, t1, _, _, false, rfl, s2 _ _ g1, upd_same, U.xc_NothingBack, vals6, U.a1_NothingBack, ?_⟩
        refine ⟨_, rfl, iteF ?_⟩
        generalize (upd H1 t1 (.tup [V.ref U.r_NoHeld, .ref U.r_NoNumber, .ref U.r_NoPut, .ref U.r_NoRing, .ref U.r_NoRow, .ref U.r_NoText])) = H2 at *
        refine ⟨_, rfl, by show 5 ≤ sizeLine; decide, fun t2 h2 => ?_⟩
        have s3 : Same H2 (upd H2 t2 (.tup [V.ref U.r_NoWay, .ref U.e_NoWeb, .ref U.r_NotRich, .ref U.r_TooFew, .ref U.r_TooGreat])) := same_upd h2
        refine ⟨x0, _, _, t2, _, _, false, rfl, s3 _ _ (s2 _ _ g1), upd_same, U.xc_NothingBack, vals5, U.a2_NothingBack, ?_⟩
        refine ⟨_, rfl, iteF ?_⟩
        generalize (upd H2 t2 (.tup [V.ref U.r_NoWay, .ref U.e_NoWeb, .ref U.r_NotRich, .ref U.r_TooFew, .ref U.r_TooGreat])) = H3 at *
        have g3 := s3 _ _ (s2 _ _ g1)
        refine ⟨_, rfl, x0, _, _, _, _, true, rfl, g3, U.xc_NothingBack, rfl, (fun z h => h), U.kv_NothingBack, _, rfl, iteF ?_⟩
        refine ⟨_, rfl, x0, _, _, _, _, false, rfl, g3, U.xc_NothingBack, rfl, (fun z h => h), U.k_NothingBack_NoTie, _, rfl, x0, _, _, _, _, true, rfl, g3, U.xc_NothingBack, rfl, (fun z h => h), kit_self _, two_le, fun l hl => ?_⟩
        have s4 : Same H3 (upd H3 l (.lst [V.bl false, .bl true])) := same_upd hl
        have g4 : (upd H3 l (.lst [V.bl false, .bl true])) l = some (.lst [V.bl false, .bl true]) := upd_same
        generalize (upd H3 l (.lst [V.bl false, .bl true])) = H4 at *
        refine ⟨_, rfl, .inl ⟨rfl, _, SqL.of g4⟩, l, [false, true], true, rfl, rfl, g4, rfl, _, rfl, ?_⟩
        refine iteB (c := false) (by rfl) (iteF ?_)
        refine ⟨two_le, fun m hm => ?_⟩
        have s5 : Same H4 (upd H4 m (.lst [V.str "tie", .str "back"])) := same_upd hm
        have g5 := s5 _ _ g4
        have no1 : ∀ (m : Nat) (z' : V), m < 1 → [V.bl false, V.bl true][m]? = some z' → eqV z' (.bl true) = false := fun m z' hm e => by
          obtain rfl : m = 0 := by omega
          simp at e
          subst e
          rfl
        refine ⟨_, rfl, .inl ⟨rfl, _, SqL.of g5⟩, l, _, .bl true, 1, .bl true, rfl, rfl, SqL.of g5, rfl, rfl, rfl, rfl, no1, m, _, _, _, rfl, rfl, SqL.of upd_same, rfl, ?_⟩
        have S := ((((s.trans s1).trans s2).trans s3).trans s4).trans s5
        exact q "back" ps ds _ hD (Kp.of S) (hd.same S)
/-! ### _law_due -/
def dueS (wd : Str) (us : List Pr) (k : Nat) (t : Pr) (ans : Str) : Prop := (wd = "back" ∧ ans = if k = 0 then "back" else "done") ∨ (wd = "put" ∧ ans = if t ∈ us then "tie" else "done") ∨ (wd = "take" ∧ ans = if t ∈ us then "done" else "tie")
def spLdue (K : PySem.W.Frag) : Sp := fun vs H Q _ => ∃ (tl pl r : Addr) (tys pys : List V) (us : List Pr) (wd : Str) (t : Pr), vs = [.ref tl, .ref pl, .str wd, .ref r] ∧ H tl = some (.lst tys) ∧ PairsAt H tys us ∧ H pl = some (.lst pys) ∧ H r = some (.tup [.int t.1, .int t.2]) ∧ (wd = "back" ∨ wd = "put" ∨ wd = "take") ∧
  ∀ (ans : Str) (H' : Hp), Same H H' → dueS wd us pys.length t ans → Q (.str ans) H'
abbrev nmLdue : List Str := ["_law_ties", "_law_past", "_law_word", "_law_tie"]
theorem scLdue : FnScope nmLdue ["_law_ties", "_law_past", "_law_word", "_law_tie"] (defScope sLdue) := ⟨rfl, rfl, rfl, by decide +kernel, rfl, by decide +kernel, by decide +kernel⟩
set_option maxHeartbeats 2000000 in
theorem ok_Ldue (U : Fs K mg) (T : Bl mg) : FnOk P w K mg base CX0 1 U.aLdue U.dLdue ["_law_ties", "_law_past", "_law_word", "_law_tie"] (spLdue K) := by
  refine U.FLdue.ok scLdue (fun vs H Q E h => ?_) (fun cdv A outer s H vs Q E hr h => ?_)
  · obtain ⟨tl, pl, r, tys, pys, us, wd, t, rfl, _⟩ := h
    rfl
  · obtain ⟨tl, pl, r, tys, pys, us, wd, t, rfl, hT, hP, hL, hr2, hW, q⟩ := h
    refine ⟨_, (pss_cons (ps_if (pt_cmpR op_eq (pv 2) pe_str (nomark _)) 
        (pss_one (ps_ret (pe_ix ix_list (pe_lst (pa_cons pe_str (pa_cons pe_str pa_nil))) (pe_callTy call_int1 (by rfl) T.int (by decide +kernel) (pa_cons (pe_cmpR (op_eqE hr.units) (pv 1) (pe_lst pa_nil) (nomark _)) pa_nil)) (fun _ _ => rfl)))) pss_nil)
      (pss_cons (ps_if (pt_cmpR op_eq (pv 2) pe_str (nomark _)) 
        (pss_one (ps_ret (pe_ix ix_list (pe_lst (pa_cons pe_str (pa_cons pe_str pa_nil))) (pe_callTy call_int1 (by rfl) T.int (by decide +kernel) (pa_cons (pe_cmpR (op_inD hr.units) (pv 3) (pv 0) (by rfl)) pa_nil)) (fun _ _ => rfl)))) pss_nil)
      (pss_one (ps_ret (pe_ix ix_list (pe_lst (pa_cons pe_str (pa_cons pe_str pa_nil))) (pe_callTy call_int1 (by rfl) T.int (by decide +kernel) (pa_cons (pe_cmpR (op_notInD hr.units) (pv 3) (pv 0) (by rfl)) pa_nil)) (fun _ _ => rfl)))))), ?_⟩
    rcases hW with rfl | rfl | rfl
    · refine ⟨_, rfl, rfl, _, rfl, iteB (c := true) (by rfl) (iteT ?_)⟩
      refine ⟨two_le, fun m hm => ?_⟩
      have s1 : Same H (upd H m (.lst [V.str "done", .str "back"])) := same_upd hm
      have g1 : (upd H m (.lst [V.str "done", .str "back"])) m = some (.lst [V.str "done", .str "back"]) := upd_same
      generalize (upd H m (.lst [V.str "done", .str "back"])) = H1 at *
      refine ⟨_, rfl, by show 0 ≤ sizeLine; decide, fun e he => ?_⟩
      have s2 : Same H1 (upd H1 e (.lst [])) := same_upd he
      refine ⟨pl, e, _, rfl, rfl, SqL.of (s2 _ _ (s1 _ _ hL)), SqL.of upd_same, .inr ⟨_, rfl, ?_⟩⟩
      have g2 := s2 _ _ g1
      by_cases c : pys.length = 0
      · rw [decide_eq_true c]
        exact ⟨m, _, 1, _, rfl, rfl, SqL.of g2, rfl, q "back" _ (s1.trans s2) (.inl ⟨rfl, by rw [if_pos c]⟩)⟩
      · rw [decide_eq_false c]
        exact ⟨m, _, 0, _, rfl, rfl, SqL.of g2, rfl, q "done" _ (s1.trans s2) (.inl ⟨rfl, by rw [if_neg c]⟩)⟩
    · refine ⟨_, rfl, rfl, _, rfl, iteB (c := false) (by rfl) (iteF ?_)⟩
      refine ⟨_, rfl, rfl, _, rfl, iteB (c := true) (by rfl) (iteT ?_)⟩
      refine ⟨two_le, fun m hm => ?_⟩
      have s1 : Same H (upd H m (.lst [V.str "done", .str "tie"])) := same_upd hm
      have g1 : (upd H m (.lst [V.str "done", .str "tie"])) m = some (.lst [V.str "done", .str "tie"]) := upd_same
      generalize (upd H m (.lst [V.str "done", .str "tie"])) = H1 at *
      refine ⟨_, rfl, _, rfl, pd t, us.map pd, dp_pd (s1 _ _ hr2), .inr (.lst (SqL.of (s1 _ _ hT)) (dpAll_pairs (PairsAt.mono (SameT.of s1) hP))), rfl, canLay_pairs us, by show 1 ≤ 60; decide, .inr ⟨_, rfl, ?_⟩⟩
      rw [if_neg Bool.false_ne_true, any_pd]
      by_cases c : t ∈ us
      · rw [decide_eq_true c]
        exact ⟨m, _, 1, _, rfl, rfl, SqL.of g1, rfl, q "tie" _ s1 (.inr (.inl ⟨rfl, by rw [if_pos c]⟩))⟩
      · rw [decide_eq_false c]
        exact ⟨m, _, 0, _, rfl, rfl, SqL.of g1, rfl, q "done" _ s1 (.inr (.inl ⟨rfl, by rw [if_neg c]⟩))⟩
    · refine ⟨_, rfl, rfl, _, rfl, iteB (c := false) (by rfl) (iteF ?_)⟩
      refine ⟨_, rfl, rfl, _, rfl, iteB (c := false) (by rfl) (iteF ?_)⟩
      refine ⟨two_le, fun m hm => ?_⟩
      have s1 : Same H (upd H m (.lst [V.str "done", .str "tie"])) := same_upd hm
      have g1 : (upd H m (.lst [V.str "done", .str "tie"])) m = some (.lst [V.str "done", .str "tie"]) := upd_same
      generalize (upd H m (.lst [V.str "done", .str "tie"])) = H1 at *
      refine ⟨_, rfl, _, rfl, pd t, us.map pd, dp_pd (s1 _ _ hr2), .inr (.lst (SqL.of (s1 _ _ hT)) (dpAll_pairs (PairsAt.mono (SameT.of s1) hP))), rfl, canLay_pairs us, by show 1 ≤ 60; decide, .inr ⟨_, rfl, ?_⟩⟩
      rw [if_pos rfl, any_pd]
      by_cases c : t ∈ us
      · rw [decide_eq_true c]
        exact ⟨m, _, 0, _, rfl, rfl, SqL.of g1, rfl, q "done" _ s1 (.inr (.inr ⟨rfl, by rw [if_pos c]⟩))⟩
      · rw [decide_eq_false c]
        exact ⟨m, _, 1, _, rfl, rfl, SqL.of g1, rfl, q "tie" _ s1 (.inr (.inr ⟨rfl, by rw [if_neg c]⟩))⟩
/-! ### _law_after -/
def spLaft (K : PySem.W.Frag) : Sp := fun vs H Q _ => ∃ (tl r : Addr) (tys : List V) (us : List Pr) (wd : Str) (t : Pr), vs = [.ref tl, .str wd, .ref r] ∧ H tl = some (.lst tys) ∧ PairsAt H tys us ∧ us.length ≤ 1000 ∧ H r = some (.tup [.int t.1, .int t.2]) ∧ (wd = "put" ∨ wd = "take") ∧
  ∀ (L : Addr) (ys : List V) (qs : List Pr) (H' : Hp), H L = none → Same H H' → H' L = some (.lst ys) → PairsAt H' ys qs → ((wd = "put" ∧ qs = us ++ [t]) ∨ (wd = "take" ∧ qs = us.filter fun q => !decide (q = t))) → Q (.ref L) H'
abbrev nmLaft : List Str := ["_law_ties", "_law_word", "_law_tie", "_law_other"]
theorem scLaft : FnScope nmLaft ["_law_ties", "_law_word", "_law_tie"] (defScope sLaft) := ⟨rfl, rfl, rfl, by decide +kernel, rfl, by decide +kernel, by decide +kernel⟩
set_option maxHeartbeats 2000000 in
theorem ok_Laft (U : Fs K mg) (T : Bl mg) : FnOk P w K mg base CX0 1 U.aLaft U.dLaft ["_law_ties", "_law_word", "_law_tie"] (spLaft K) := by
  refine U.FLaft.ok scLaft (fun vs H Q E h => ?_) (fun cdv A outer s H vs Q E hr h => ?_)
  · obtain ⟨tl, r, tys, us, wd, t, rfl, _⟩ := h
    rfl
  · obtain ⟨tl, r, tys, us, wd, t, rfl, hT, hP, hl, hr2, hW, q⟩ := h
    refine ⟨_, (pss_cons (ps_if (pt_cmpR op_eq (pv 1) pe_str (nomark _)) 
        (pss_one (ps_ret (pe_op op_cat (pv 0) (pe_lst (pa_cons (pv 2) pa_nil))))) pss_nil)
      (pss_one (ps_ret (pe_lc (own := [("_law_other", 3)]) (g := (gName 3)) (tt := (tTest (tOp (rNeD K) (tVar 3) (tVar 2)))) (te := (tVar 3)) (by rfl) scLaft.nd (pi_list (pv 0)) (blkOk_by (own := [("_law_other", 3)]) (N := nmLaft) (sc := defScope sLaft) (by decide +kernel)) (fun _ _ _ _ _ => by exact (pg_name (i := 3) scLaft.nd rfl (Or.inl rfl))) (fun _ _ _ _ _ => by exact (pts_one (pt_cmpR (op_neD hr.units) (pv 3) (pv 2) (nomark _)))) (fun _ _ _ _ _ => by exact (pv 3)))))), ?_⟩
    have big : 3000 ≤ sizeLine := by decide
    have tyl := Paired.length hP
    rcases hW with rfl | rfl
    · refine ⟨_, rfl, rfl, _, rfl, iteB (c := true) (by rfl) (iteT ?_)⟩
      refine ⟨_, rfl, _, rfl, by show 1 ≤ sizeLine; decide, fun e he => ?_⟩
      have s1 : Same H (upd H e (.lst [.ref r])) := same_upd he
      refine ⟨tl, e, _, _, rfl, rfl, s1 _ _ hT, upd_same, by show tys.length + 1 ≤ _; omega, fun L hL => ?_⟩
      have s2 : Same (upd H e (.lst [.ref r])) (upd (upd H e (.lst [.ref r])) L (.lst (tys ++ [.ref r]))) := same_upd hL
      have S := s1.trans s2
      exact q L _ _ _ (s1.free hL) S upd_same (PairsAt.append (PairsAt.mono (SameT.of S) hP) (.cons ⟨r, rfl, S _ _ hr2⟩ .nil)) (.inl ⟨rfl, rfl⟩)
    · refine ⟨_, rfl, rfl, _, rfl, iteB (c := false) (by rfl) (iteF ?_)⟩
      refine ⟨_, rfl, tl, rfl, ⟨_, SqL.of hT⟩, fun D hD => ?_⟩
      refine lc_list (K := K) (a := tl) (xs := tys) (fun i H2 => ∃ zs, Same H H2 ∧ H2 D = some (.lst zs) ∧ PairsAt H2 zs ((us.take i).filter fun q => !decide (q = t)))
        ⟨[], same_upd hD, upd_same, .nil⟩ (fun i H2 _ ⟨_, s2, _⟩ => SqL.of (s2 _ _ hT)) ?_ ?_
      · rintro i y H2 hy ⟨zs, s2, hD2, hzs⟩
        obtain ⟨p, r9, hp, rfl, hr9⟩ := PairsAt.get hP hy
        have hll := Paired.length hzs
        have hfl := List.length_filter_le (fun q => !decide (q = t)) (us.take i)
        rw [List.length_take] at hfl
        have hr92 := s2 _ _ hr9
        refine ⟨rfl, _, rfl, _, rfl, pd p, pd t, dp_pd hr92, dp_pd (s2 _ _ hr2), rfl, rfl, ?_⟩
        refine ⟨_, rfl, ?_⟩
        have e1 : PyData.eqv (pd p) (pd t) = decide (p = t) := by
          have := any_pd [p] t
          simpa [eq_comm] using this
        rw [e1, take_snoc hp, List.filter_append]
        refine ite2 (fun c1 => ?_) (fun c1 => ?_)
        · refine ⟨_, rfl, zs, hD2, by omega, zs ++ [.ref r9], s2.updN hD, upd_same, ?_⟩
          rw [List.filter_cons_of_pos (p := fun q => !decide (q = t)) (a := p) (l := []) c1]
          exact Paired.snoc (PairsAt.mono (SameT.lst hD2) hzs) ⟨r9, rfl, by rw [upd_ne (ne_of hr92 hD2 (by intro z; cases z))]; exact hr92⟩
        · refine ⟨zs, s2, hD2, ?_⟩
          rw [List.filter_cons_of_neg (p := fun q => !decide (q = t)) (a := p) (l := []) c1]
          simpa using hzs
      rintro H2 ⟨zs, s2, hD2, hzs⟩
      rw [tyl, List.take_length] at hzs
      exact q D zs _ H2 hD s2 hD2 hzs (.inr ⟨rfl, rfl⟩)
end
end Wb

end
section
set_option Elab.async false
set_option linter.all false
set_option maxRecDepth 100000
namespace Wb
open PySem L2
/-! ### data of a bounded text -/
structure Bd (k B : Nat) (d : PyData) : Prop where
  s : d.showable = true
  h : d.hasDict = false
  dep : d.depth ≤ k
  l : d.shown.length ≤ B
theorem Bd.mono {k k' B B' : Nat} {d : PyData} (b : Bd k B d) (hk : k ≤ k') (hB : B ≤ B') : Bd k' B' d := ⟨b.s, b.h, Nat.le_trans b.dep hk, Nat.le_trans b.l hB⟩
theorem bd_tup {k B : Nat} {ds : List PyData} (h : ∀ d ∈ ds, Bd k B d) : Bd (k + 1) (ds.length * (B + 2) + 3) (.tuple ds) := by
  refine ⟨?_, ?_, ?_, tuple_len (B := B) fun d hd => (h d hd).l⟩
  · rw [PyData.showable]; exact showableAll_of fun d hd => (h d hd).s
  · rw [PyData.hasDict]; exact hasDictAll_of fun d hd => (h d hd).h
  · rw [PyData.depth]; have := depthAll_of (k := k) fun d hd => (h d hd).dep; omega
theorem bd_lst {k B : Nat} {ds : List PyData} (h : ∀ d ∈ ds, Bd k B d) : Bd (k + 1) (ds.length * (B + 2) + 3) (.list ds) := by
  refine ⟨?_, ?_, ?_, ?_⟩
  · rw [PyData.showable]; exact showableAll_of fun d hd => (h d hd).s
  · rw [PyData.hasDict]; exact hasDictAll_of fun d hd => (h d hd).h
  · rw [PyData.depth]; have := depthAll_of (k := k) fun d hd => (h d hd).dep; omega
  · rw [PyData.shown, shownAll_map]
    have p := sum_le (B := B) (ts := ds.map PyData.shown) fun t ht => by
      obtain ⟨d, hd, rfl⟩ := List.mem_map.mp ht
      exact (h d hd).l
    have q := textFrom_len_le (ds.map PyData.shown) 0 (Str.ofString "[")
    rw [List.length_map] at p q
    unfold listText
    rw [strLen_append]
    have e1 : ((("[" : String) : Str)).length = 1 := rfl
    have e3 : ((("]" : String) : Str)).length = 1 := rfl
    rw [e1] at q
    rw [e3, Nat.mul_add]
    omega
theorem bd_int {i : Int} (h0 : 0 ≤ i) (h1 : i < 100) : Bd 0 2 (.int i) := by
  have := int_len h0 h1
  exact ⟨this.2, rfl, Nat.le_refl _, this.1⟩
theorem bd_pd {p : Pr} (h : 0 ≤ p.1 ∧ p.1 < 100 ∧ 0 ≤ p.2 ∧ p.2 < 100) : Bd 1 11 (pd p) := let ⟨a, b, c, d⟩ := shw_pd h; ⟨a, b, c, d⟩
theorem bd_pairs {ps : List Pr} (h : ∀ p ∈ ps, 0 ≤ p.1 ∧ p.1 < 100 ∧ 0 ≤ p.2 ∧ p.2 < 100) (hl : ps.length ≤ 400) : Bd 2 6000 (dPairs ps) := by
  have := bd_tup (k := 1) (B := 11) (ds := ps.map pd) fun d hd => by
    obtain ⟨p, hp, rfl⟩ := List.mem_map.mp hd
    exact bd_pd (h p hp)
  rw [List.length_map] at this
  exact this.mono (Nat.le_refl _) (by omega)
theorem bd_web {n : Int} {ps : List Pr} (hn : 0 ≤ n ∧ n < 100) (h : ∀ p ∈ ps, 0 ≤ p.1 ∧ p.1 < 100 ∧ 0 ≤ p.2 ∧ p.2 < 100) (hl : ps.length ≤ 400) : Bd 3 12007 (dWeb n ps) := by
  refine (bd_tup (k := 2) (B := 6000) (ds := [.int n, dPairs ps]) fun d hd => ?_).mono (Nat.le_refl _) (by show 2 * 6002 + 3 ≤ 12007; decide)
  rcases List.mem_cons.mp hd with rfl | hd
  · exact (bd_int hn.1 hn.2).mono (by decide) (by decide)
  · rw [List.mem_singleton.mp hd]; exact bd_pairs h hl
theorem rng100 {n : Int} {ps : List Pr} (g : Good n ps) (hn : n ≤ 100) : ∀ p ∈ ps, 0 ≤ p.1 ∧ p.1 < 100 ∧ 0 ≤ p.2 ∧ p.2 < 100 := fun p hp => by
  have := g.lo p hp
  omega
end Wb

end
section
set_option Elab.async false
set_option linter.all false
set_option maxRecDepth 100000
namespace Wb
open PySem L2
section
variable {P : Program} {w : World} {K : PySem.W.Frag} {mg : Str → Option Value} {base : Heap}
/-! ### what stands while the desk goes -/
theorem seq_midA {t u : TS} {D : Ends} {σ : St} {H : Hp} (Mid : St → Hp → Prop) (h1 : ∀ N : St → Hp → Prop, (∀ σ' H', Mid σ' H' → N σ' H') → t { D with nx := N } σ H) (h2 : ∀ σ' H', Mid σ' H' → u D σ' H') : tSeq t u D σ H := h1 _ h2
def PastA (H : Hp) (bad : List Addr) (v : V) (us : List Pr) : Prop := ∃ b zs, v = .ref b ∧ b ∉ bad ∧ H b = some (.lst zs) ∧ PairsAt H zs us
abbrev WsAt (H : Hp) (n : Nat) (ys : List V) (ws : List (List Pr)) : Prop := Paired (fun v (qs : List Pr) => WebAt H v n qs) ys ws
structure Go (C : Addr) (H : Hp) (p a dx dl td du pa tl : Addr) (n : Nat) (ps ds us : List Pr) (Us wt wu : List (List Pr)) : Prop where
  hxs : XsAt H p
  hdk : DeskAt C H a dx dl n ps ds
  htl : PastA H [p, a, dl, td, du, pa] (.ref tl) us
  hpa : ∃ ys, H pa = some (.lst ys) ∧ Paired (PastA H [p, a, dl, td, du, pa]) ys Us
  htd : ∃ ys, H td = some (.lst ys) ∧ WsAt H n ys wt
  hdu : ∃ ys, H du = some (.lst ys) ∧ WsAt H n ys wu
  pA : p ≠ a
  pD : p ≠ dl
  nTd : td ∉ [p, a, dl]
  nDu : du ∉ [p, a, dl, td]
  nPa : pa ∉ [p, a, dl, td, du]
section
variable {C p a dx dl td du pa tl : Addr} {H H' : Hp} {n : Nat} {ps ds us qs es : List Pr} {Us wt wu : List (List Pr)}
theorem PastA.fr {bad : List Addr} {v : V} (k : ∀ b o, H b = some o → b ∉ bad → H' b = some o) (m : SameT H H') (h : PastA H bad v us) : PastA H' bad v us :=
  let ⟨b, zs, e1, nb, e2, e3⟩ := h
  ⟨b, zs, e1, nb, k _ _ e2 nb, PairsAt.mono m e3⟩
theorem Go.tup (g : Go C H p a dx dl td du pa tl n ps ds us Us wt wu) (k : ∀ b o, H b = some o → b ∉ [p, a, dl] → H' b = some o) : SameT H H' := fun b xs h => k b _ h fun hb => by
  obtain ⟨z, e, _⟩ := g.hxs
  obtain ⟨w, ys, h1, _, h2, _⟩ := g.hdk.at_
  simp only [List.mem_cons, List.not_mem_nil, or_false] at hb
  rcases hb with rfl | rfl | rfl
  · rw [e] at h; cases h
  · rw [h1] at h; cases h
  · rw [h2] at h; cases h
theorem Go.frame (g : Go C H p a dx dl td du pa tl n ps ds us Us wt wu) (k : ∀ b o, H b = some o → b ∉ [p, a, dl] → H' b = some o) (hx : XsAt H' p) (hd : DeskAt C H' a dx dl n qs es) : Go C H' p a dx dl td du pa tl n qs es us Us wt wu := by
  have m := g.tup k
  have k6 : ∀ b o, H b = some o → b ∉ [p, a, dl, td, du, pa] → H' b = some o := fun b o h nb => k b o h fun z => nb (List.mem_append_left [td, du, pa] z)
  obtain ⟨y1, e1, h1⟩ := g.hpa
  obtain ⟨y2, e2, h2⟩ := g.htd
  obtain ⟨y3, e3, h3⟩ := g.hdu
  exact ⟨hx, hd, g.htl.fr k6 m, ⟨y1, k _ _ e1 fun z => g.nPa (List.mem_append_left [td, du] z), L2.Paired.mapP h1 fun v u h => h.fr k6 m⟩, ⟨y2, k _ _ e2 g.nTd, L2.Paired.mapP h2 fun v u h => h.mono m⟩,
    ⟨y3, k _ _ e3 fun z => g.nDu (List.mem_append_left [td] z), L2.Paired.mapP h3 fun v u h => h.mono m⟩, g.pA, g.pD, g.nTd, g.nDu, g.nPa⟩
theorem Go.same (g : Go C H p a dx dl td du pa tl n ps ds us Us wt wu) (s : Same H H') : Go C H' p a dx dl td du pa tl n ps ds us Us wt wu := g.frame (fun b o h _ => s b o h) (g.hxs.same s) (g.hdk.same s)
theorem Go.next (g : Go C H p a dx dl td du pa tl n ps ds us Us wt wu) (sb : SameBut p H H') (hx : XsAt H' p) : Go C H' p a dx dl td du pa tl n ps ds us Us wt wu := by
  have k : ∀ b o, H b = some o → b ∉ [p, a, dl] → H' b = some o := fun b o h nb => sb b o h fun z => nb (by rw [z]; exact List.mem_cons_self)
  have m := g.tup k
  obtain ⟨w, ys, h1, hw, h2, hp⟩ := g.hdk.at_
  exact g.frame k hx ⟨⟨w, ys, sb _ _ h1 g.pA.symm, hw.mono m, sb _ _ h2 g.pD.symm, PairsAt.mono m hp⟩, g.hdk.good, g.hdk.le, g.hdk.ge, g.hdk.few, g.hdk.ne⟩
theorem Go.desk (g : Go C H p a dx dl td du pa tl n ps ds us Us wt wu) (k : Kp a dl H H') (hd : DeskAt C H' a dx dl n qs es) : Go C H' p a dx dl td du pa tl n qs es us Us wt wu :=
  g.frame (fun b o h nb => k b o h (fun z => nb (by rw [z]; simp)) (fun z => nb (by rw [z]; simp))) (let ⟨z, e, l⟩ := g.hxs; ⟨z, k _ _ e g.pA g.pD, l⟩) hd
/-- a list of the law's is changed -/
theorem DeskAt.updL {z : Addr} {o : HO} (d : DeskAt C H a dx dl n ps ds) (za : z ≠ a) (zd : z ≠ dl) (m : SameT H (upd H z o)) : DeskAt C (upd H z o) a dx dl n ps ds := by
  obtain ⟨w, ys, h1, hw, h2, hp⟩ := d.at_
  exact ⟨⟨w, ys, by rw [upd_ne za.symm]; exact h1, hw.mono m, by rw [upd_ne zd.symm]; exact h2, PairsAt.mono m hp⟩, d.good, d.le, d.ge, d.few, d.ne⟩
theorem Go.onTd {ys : List V} {wt' : List (List Pr)} (g : Go C H p a dx dl td du pa tl n ps ds us Us wt wu) (h : WsAt H n ys wt') : Go C (upd H td (.lst ys)) p a dx dl td du pa tl n ps ds us Us wt' wu := by
  obtain ⟨y1, e1, h1⟩ := g.hpa
  obtain ⟨y2, e2, h2⟩ := g.htd
  obtain ⟨y3, e3, h3⟩ := g.hdu
  have m : SameT H (upd H td (.lst ys)) := SameT.lst e2
  have k6 : ∀ b o, H b = some o → b ∉ [p, a, dl, td, du, pa] → (upd H td (.lst ys)) b = some o := fun b o h nb => by rw [upd_ne (fun z => nb (by rw [z]; simp))]; exact h
  have t := g.nTd
  have d := g.nDu
  have q := g.nPa
  simp only [List.mem_cons, List.not_mem_nil, or_false, not_or] at t d q
  exact ⟨g.hxs.upd (Ne.symm t.1), g.hdk.updL t.2.1 t.2.2 m, g.htl.fr k6 m, ⟨y1, by rw [upd_ne q.2.2.2.1]; exact e1, L2.Paired.mapP h1 fun v u h => h.fr k6 m⟩, ⟨ys, upd_same, L2.Paired.mapP h fun v u h => h.mono m⟩,
    ⟨y3, by rw [upd_ne d.2.2.2]; exact e3, L2.Paired.mapP h3 fun v u h => h.mono m⟩, g.pA, g.pD, g.nTd, g.nDu, g.nPa⟩
theorem Go.onDu {ys : List V} {wu' : List (List Pr)} (g : Go C H p a dx dl td du pa tl n ps ds us Us wt wu) (h : WsAt H n ys wu') : Go C (upd H du (.lst ys)) p a dx dl td du pa tl n ps ds us Us wt wu' := by
  obtain ⟨y1, e1, h1⟩ := g.hpa
  obtain ⟨y2, e2, h2⟩ := g.htd
  obtain ⟨y3, e3, h3⟩ := g.hdu
  have m : SameT H (upd H du (.lst ys)) := SameT.lst e3
  have k6 : ∀ b o, H b = some o → b ∉ [p, a, dl, td, du, pa] → (upd H du (.lst ys)) b = some o := fun b o h nb => by rw [upd_ne (fun z => nb (by rw [z]; simp))]; exact h
  have t := g.nTd
  have d := g.nDu
  have q := g.nPa
  simp only [List.mem_cons, List.not_mem_nil, or_false, not_or] at t d q
  exact ⟨g.hxs.upd (Ne.symm d.1), g.hdk.updL d.2.1 d.2.2.1 m, g.htl.fr k6 m, ⟨y1, by rw [upd_ne q.2.2.2.2]; exact e1, L2.Paired.mapP h1 fun v u h => h.fr k6 m⟩, ⟨y2, by rw [upd_ne (Ne.symm d.2.2.2)]; exact e2, L2.Paired.mapP h2 fun v u h => h.mono m⟩,
    ⟨ys, upd_same, L2.Paired.mapP h fun v u h => h.mono m⟩, g.pA, g.pD, g.nTd, g.nDu, g.nPa⟩
theorem Go.onPa {ys : List V} {Us' : List (List Pr)} {tl' : Addr} {us' : List Pr} (g : Go C H p a dx dl td du pa tl n ps ds us Us wt wu) (h : Paired (PastA H [p, a, dl, td, du, pa]) ys Us') (ht : PastA H [p, a, dl, td, du, pa] (.ref tl') us') : Go C (upd H pa (.lst ys)) p a dx dl td du pa tl' n ps ds us' Us' wt wu := by
  obtain ⟨y1, e1, h1⟩ := g.hpa
  obtain ⟨y2, e2, h2⟩ := g.htd
  obtain ⟨y3, e3, h3⟩ := g.hdu
  have m : SameT H (upd H pa (.lst ys)) := SameT.lst e1
  have k6 : ∀ b o, H b = some o → b ∉ [p, a, dl, td, du, pa] → (upd H pa (.lst ys)) b = some o := fun b o h nb => by rw [upd_ne (fun z => nb (by rw [z]; simp))]; exact h
  have q := g.nPa
  simp only [List.mem_cons, List.not_mem_nil, or_false, not_or] at q
  exact ⟨g.hxs.upd (Ne.symm q.1), g.hdk.updL q.2.1 q.2.2.1 m, ht.fr k6 m, ⟨ys, upd_same, L2.Paired.mapP h fun v u h => h.fr k6 m⟩, ⟨y2, by rw [upd_ne (Ne.symm q.2.2.2.1)]; exact e2, L2.Paired.mapP h2 fun v u h => h.mono m⟩,
    ⟨y3, by rw [upd_ne (Ne.symm q.2.2.2.2)]; exact e3, L2.Paired.mapP h3 fun v u h => h.mono m⟩, g.pA, g.pD, g.nTd, g.nDu, g.nPa⟩
/-- a list made anew is none of those -/
theorem Go.fresh {L : Addr} (g : Go C H p a dx dl td du pa tl n ps ds us Us wt wu) (hL : H L = none) : L ∉ [p, a, dl, td, du, pa] := fun z => by
  obtain ⟨z0, e0, _⟩ := g.hxs
  obtain ⟨w, ys, h1, _, h2, _⟩ := g.hdk.at_
  obtain ⟨y1, e1, _⟩ := g.hpa
  obtain ⟨y2, e2, _⟩ := g.htd
  obtain ⟨y3, e3, _⟩ := g.hdu
  simp only [List.mem_cons, List.not_mem_nil, or_false] at z
  rcases z with rfl | rfl | rfl | rfl | rfl | rfl <;> simp_all
end
/-! ### deeds and what they lead back to -/
inductive Und : List Pr → List (List Pr) → List Pr → Prop
  | nil : Und [] [] []
  | put {us : List Pr} {Us : List (List Pr)} {ds : List Pr} {t : Pr} : Und us Us ds → t ∉ us → Und (us ++ [t]) (Us ++ [us]) (ds ++ [t])
  | take {us : List Pr} {Us : List (List Pr)} {ds : List Pr} {t : Pr} : Und us Us ds → t ∈ us → Und (us.filter fun q => !decide (q = t)) (Us ++ [us]) (ds ++ [t])
theorem Und.len {us ds : List Pr} {Us : List (List Pr)} (h : Und us Us ds) : Us.length = ds.length := by
  induction h with
  | nil => rfl
  | put _ _ ih => rw [List.length_append, List.length_append, ih]; rfl
  | take _ _ ih => rw [List.length_append, List.length_append, ih]; rfl
theorem Und.nd {us ds : List Pr} {Us : List (List Pr)} (h : Und us Us ds) : us.Nodup := by
  induction h with
  | nil => exact .nil
  | put h c ih => exact List.nodup_append.mpr ⟨ih, by simp, fun x hx y hy e => by rw [List.mem_singleton.mp hy] at e; subst e; exact c hx⟩
  | take h c ih => exact ih.filter _
theorem Und.inv {us ds es : List Pr} {Us : List (List Pr)} {t : Pr} (h : Und us Us ds) (e : ds = es ++ [t]) : ∃ us' Us', Us = Us' ++ [us'] ∧ Und us' Us' es ∧ ((t ∉ us' ∧ us = us' ++ [t]) ∨ (t ∈ us' ∧ us = us'.filter fun q => !decide (q = t))) := by
  cases h with
  | nil => simp at e
  | put h c =>
    obtain ⟨e1, e2⟩ := List.append_inj' e rfl
    injection e2 with e2
    subst e1 e2
    exact ⟨_, _, rfl, h, .inl ⟨c, rfl⟩⟩
  | take h c =>
    obtain ⟨e1, e2⟩ := List.append_inj' e rfl
    injection e2 with e2
    subst e1 e2
    exact ⟨_, _, rfl, h, .inr ⟨c, rfl⟩⟩
theorem done_due {ps ds us qs es : List Pr} {wd ans ans' : Str} {t : Pr} {k : Nat} (hm : ∀ q, q ∈ us ↔ q ∈ ps) (hk : k = ds.length) (h : DoneR ps ds wd t ans' qs es) (d : dueS wd us k t ans) : ans' = ans := by
  subst hk
  rcases d with ⟨rfl, e⟩ | ⟨rfl, e⟩ | ⟨rfl, e⟩
  · generalize hw : Str.ofString "back" = wd at h
    cases h with
    | putN c => exact absurd hw (by decide)
    | putY c _ => exact absurd hw (by decide)
    | takeN c => exact absurd hw (by decide)
    | takeY c _ => exact absurd hw (by decide)
    | backN c => rw [e, if_pos (by rw [c]; rfl)]
    | backY c _ _ => rw [e, if_neg (by rw [c, List.length_append]; simp)]
  · generalize hw : Str.ofString "put" = wd at h
    cases h with
    | putN c => rw [e, if_pos ((hm _).mpr c)]
    | putY c _ => rw [e, if_neg (fun z => c ((hm _).mp z))]
    | takeN c => exact absurd hw (by decide)
    | takeY c _ => exact absurd hw (by decide)
    | backN c => exact absurd hw (by decide)
    | backY c _ _ => exact absurd hw (by decide)
  · generalize hw : Str.ofString "take" = wd at h
    cases h with
    | putN c => exact absurd hw (by decide)
    | putY c _ => exact absurd hw (by decide)
    | takeN c => rw [e, if_neg (fun z => c ((hm _).mp z))]
    | takeY c _ => rw [e, if_pos ((hm _).mpr c)]
    | backN c => exact absurd hw (by decide)
    | backY c _ _ => exact absurd hw (by decide)
/-! ### webs held against webs -/
theorem shp_web46 {n : Nat} {ps : List Pr} (hn : n ≤ 20) (g : Good n ps) : SeqAt.shaped (dWeb n ps) = true := by
  have b := bd_web (n := (n : Int)) (by omega) (rng100 g (by omega)) (by have := good_190 g hn; omega)
  unfold SeqAt.shaped
  rw [Bool.and_eq_true]
  refine ⟨?_, decide_eq_true (Nat.le_trans b.dep (by decide))⟩
  show (true && (PyData.canLayAll0 (ps.map pd) && true)) = true
  rw [canLay_pairs]; rfl
theorem shp_webs {n : Nat} (hn : n ≤ 20) {ws : List (List Pr)} (g : ∀ q ∈ ws, Good n q) : SeqAt.shaped (.list (ws.map (dWeb n))) = true := by
  have b := bd_lst (k := 3) (B := 12007) (ds := ws.map (dWeb n)) fun d hd => by
    obtain ⟨q, hq, rfl⟩ := List.mem_map.mp hd
    exact bd_web (n := (n : Int)) (by omega) (rng100 (g q hq) (by omega)) (by have := good_190 (g q hq) hn; omega)
  have c : ∀ ws : List (List Pr), PyData.canLayAll0 (ws.map (dWeb n)) = true := fun ws => by
    induction ws with
    | nil => rfl
    | cons q ws ih =>
      show ((true && (PyData.canLayAll0 (q.map pd) && true)) && PyData.canLayAll0 (ws.map (dWeb n))) = true
      rw [canLay_pairs, ih]; rfl
  unfold SeqAt.shaped
  rw [Bool.and_eq_true]
  refine ⟨?_, decide_eq_true (Nat.le_trans b.dep (by decide))⟩
  exact c ws
theorem dp_webs {H : Hp} {n : Nat} : ∀ {ys : List V} {ws : List (List Pr)}, WsAt H n ys ws → DpAll K H ys (ws.map (dWeb n))
  | _, _, .nil => .nil
  | _, _, .cons (a := v) h t => .cons (by obtain ⟨b, e, hd⟩ := dp_web (K := K) h; rw [e]; exact hd) (dp_webs t)
theorem neD_sameA {K : PySem.W.Frag} {H : Hp} {x y : V} {d : PyData} {Q : VK} (hx : Dp K H x d) (hy : Dp K H y d) (hs : SeqAt.shaped d = true) (q : Q (.bl false) H) : rNeD K x y H Q := by
  refine ⟨d, d, hx, hy, hs, hs, ?_⟩
  have : d.canLay0 = true := by unfold SeqAt.shaped at hs; rw [Bool.and_eq_true] at hs; exact hs.1
  rw [SeqAt.eqv_refl d this]
  exact q
theorem eqD_sameA {K : PySem.W.Frag} {H : Hp} {x y : V} {d : PyData} {Q : VK} (hx : Dp K H x d) (hy : Dp K H y d) (hs : SeqAt.shaped d = true) (q : Q (.bl true) H) : rEqD K x y H Q := by
  refine ⟨d, d, hx, hy, hs, hs, ?_⟩
  have : d.canLay0 = true := by unfold SeqAt.shaped at hs; rw [Bool.and_eq_true] at hs; exact hs.1
  rw [SeqAt.eqv_refl d this]
  exact q
theorem dp_webV {H : Hp} {v : V} {n : Int} {ps : List Pr} (h : WebAt H v n ps) : Dp K H v (dWeb n ps) := by
  obtain ⟨b, e, hd⟩ := dp_web (K := K) h
  rw [e]; exact hd
theorem mod_ne {a e n : Int} (a0 : 0 ≤ a) (a1 : a < n) (e0 : 0 ≤ e) (e1 : e < n - 1) : (0 ≤ (a + 1 + e) % n ∧ (a + 1 + e) % n < n) ∧ a ≠ (a + 1 + e) % n := by
  refine ⟨⟨Int.emod_nonneg _ (by omega), Int.emod_lt_of_pos _ (by omega)⟩, fun h => ?_⟩
  have h3 := Int.emod_add_mul_ediv (a + 1 + e) n
  rw [← h] at h3
  by_cases c : (a + 1 + e) / n ≤ 0
  · have := Int.mul_le_mul_of_nonneg_left c (show (0 : Int) ≤ n by omega)
    rw [Int.mul_zero] at this
    omega
  · have := Int.mul_le_mul_of_nonneg_left (show (1 : Int) ≤ (a + 1 + e) / n by omega) (show (0 : Int) ≤ n by omega)
    rw [Int.mul_one] at this
    omega
theorem at_get46 {xs : List V} {i : Int} (h0 : 0 ≤ i) (h1 : i < xs.length) : ∃ (k : Nat) (x : V), atI xs i = some x ∧ xs[k]? = some x := by
  obtain ⟨k, rfl⟩ := Int.eq_ofNat_of_zero_le h0
  have hk : k < xs.length := by omega
  exact ⟨k, xs[k], atI_nat (List.getElem?_eq_getElem hk), List.getElem?_eq_getElem hk⟩
end
end Wb

end
section
set_option Elab.async false
set_option linter.all false
set_option maxRecDepth 100000
namespace Wb
open PySem L2
section
variable {P : Program} {w : World} {K : PySem.W.Frag} {mg : Str → Option Value} {base : Heap}
/-! ### _law_goes -/
theorem Go.reTl {C p a dx dl td du pa tl L : Addr} {H : Hp} {n : Nat} {ps ds us us' : List Pr} {Us wt wu : List (List Pr)} (g : Go C H p a dx dl td du pa tl n ps ds us Us wt wu) (h : PastA H [p, a, dl, td, du, pa] (.ref L) us') : Go C H p a dx dl td du pa L n ps ds us' Us wt wu :=
  ⟨g.hxs, g.hdk, h, g.hpa, g.htd, g.hdu, g.pA, g.pD, g.nTd, g.nDu, g.nPa⟩
theorem done_inR {n : Nat} {ps ds qs es : List Pr} {wd ans : Str} {x y : Int} (hI : InR n ds) (hxy : (0 ≤ x ∧ x < (n : Int)) ∧ (0 ≤ y ∧ y < (n : Int)) ∧ x ≠ y) (h : DoneR ps ds wd (pr x y) ans qs es) : InR n es ∧ es.length ≤ ds.length + 1 := by
  have hmm := mnmx hxy.1 hxy.2.1 hxy.2.2
  have app : InR n (ds ++ [pr x y]) := fun t ht => by
    rcases List.mem_append.mp ht with h | h
    · exact hI t h
    · rw [List.mem_singleton.mp h]; exact hmm
  cases h with
  | putN c => exact ⟨hI, by omega⟩
  | putY c _ => exact ⟨app, by rw [List.length_append]; simp⟩
  | takeN c => exact ⟨hI, by omega⟩
  | takeY c _ => exact ⟨app, by rw [List.length_append]; simp⟩
  | backN c => exact ⟨hI, by omega⟩
  | backY c _ _ => exact ⟨fun t ht => hI t (by rw [c]; exact List.mem_append_left _ ht), by rw [c, List.length_append]; omega⟩
theorem paired_last46 {α β : Type} {R : α → β → Prop} : ∀ (m : List β) {xs : List α} {s : β}, Paired R xs (m ++ [s]) → ∃ ys v, xs = ys ++ [v] ∧ R v s := by
  intro m
  induction m with
  | nil =>
    intro xs s h
    cases h with
    | cons h t =>
      cases t
      exact ⟨[], _, rfl, h⟩
  | cons a m ih =>
    intro xs s h
    cases h with
    | cons h t =>
      obtain ⟨ys, v, e, h'⟩ := ih t
      exact ⟨_ :: ys, v, by rw [e]; rfl, h'⟩
theorem atI_last46 {xs ys : List V} {v : V} (e : xs = ys ++ [v]) : atI xs (-1) = some v := by
  subst e
  unfold atI ixN
  rw [if_neg (by decide), if_pos (by simp; omega)]
  show (ys ++ [v])[(((ys ++ [v]).length : Int) + -1).toNat]? = _
  rw [List.length_append, List.length_singleton, show (((ys.length + 1 : Nat) : Int) + -1).toNat = ys.length by omega]
  simp
theorem paired_front46 {α β : Type} {F : α → β → Prop} : ∀ {xs : List α} {x : α} {ms : List β} {z : β}, Paired F (xs ++ [x]) (ms ++ [z]) → Paired F xs ms
  | [], _, [], _, _ => .nil
  | [], _, _ :: ms, _, .cons _ t => by cases ms <;> cases t
  | _ :: xs, _, [], _, .cons _ t => by cases xs <;> cases t
  | _ :: xs, _, _ :: ms, _, .cons h t => .cons h (paired_front46 t)
def spLgoes (K : PySem.W.Frag) : Sp := fun vs H Q _ => ∃ (p : Addr) (n : Nat), vs = [.ref p, .int n] ∧ XsAt H p ∧ 3 ≤ n ∧ n ≤ 20 ∧ ∀ H', SameBut p H H' → XsAt H' p → Q (.bl true) H'
abbrev nmLgoes : List Str := ["_law_xs", "_law_many", "_law_desk", "_law_ties", "_law_past", "_law_told", "_law_due_here", "_law_turn", "_law_word", "_law_a", "_law_b", "_law_tie", "_law_answer"]
theorem scLgoes : FnScope nmLgoes ["_law_xs", "_law_many"] (defScope sLgoes) := ⟨rfl, rfl, rfl, by decide +kernel, rfl, by decide +kernel, by decide +kernel⟩
set_option maxHeartbeats 8000000 in
theorem ok_Lgoes (U : Fs K mg) (T : Bl mg) : FnOk P w K mg base CX0 8 U.aLgoes U.dLgoes ["_law_xs", "_law_many"] (spLgoes K) := by
  have GDkI : FnOk P w K mg base (CX3 P w) 6 U.aDkI U.dDkI ["self", "many"] (spDkI K U.e_Desk) := (ok_DkI U T).mono (by decide)
  have GDkW : FnOk P w K mg base CX0 7 U.aDkW U.dDkW ["self"] (spDkW K U.e_Desk) := (ok_DkW U T).mono (by decide)
  have GNext : FnOk P w K mg base CX0 7 U.aNext U.dNext ["_law_xs", "_law_many"] spNextX := (ok_Next U T).mono (by decide)
  have GLdue : FnOk P w K mg base CX0 7 U.aLdue U.dLdue ["_law_ties", "_law_past", "_law_word", "_law_tie"] (spLdue K) := (ok_Ldue U T).mono (by decide)
  have GLdone : FnOk P w K mg base CX0 7 U.aLdone U.dLdone ["_law_desk", "_law_word", "_law_a", "_law_b"] (spLdone K U.e_Desk) := (ok_Ldone U T).mono (by decide)
  have GLaft : FnOk P w K mg base CX0 7 U.aLaft U.dLaft ["_law_ties", "_law_word", "_law_tie"] (spLaft K) := (ok_Laft U T).mono (by decide)
  refine U.FLgoes.ok scLgoes (fun vs H Q E h => ?_) (fun cdv A outer s H vs Q E hr h => ?_)
  · obtain ⟨p, n, rfl, _⟩ := h
    rfl
  · obtain ⟨p, n, rfl, hx, hn3, hn, q⟩ := h
    refine ⟨_, (pss_cons (ps_set (i := 2) scLgoes.nd rfl (Or.inl rfl) (pe_make U.M_Desk GDkI hr rfl U.h_Desk U.bDkI .nil pass3 (pa_cons (pv 1) pa_nil)))
      (pss_cons (ps_set (i := 3) scLgoes.nd rfl (Or.inl rfl) (pe_lst pa_nil))
      (pss_cons (ps_set (i := 4) scLgoes.nd rfl (Or.inl rfl) (pe_lst pa_nil))
      (pss_cons (ps_set (i := 5) scLgoes.nd rfl (Or.inl rfl) (pe_lst (pa_cons (pe_meth0 (pv 2) U.k_Desk U.mt_Desk_web GDkW hr U.bDkW .nil pass0) pa_nil)))
      (pss_cons (ps_set (i := 6) scLgoes.nd rfl (Or.inl rfl) (pe_lst (pa_cons (pe_tup (pa_cons (pv 1) (pa_cons (pe_tup pa_nil) pa_nil))) pa_nil)))
      (pss_cons (ps_for PassesOwn.never rfl (pi_range1 rfl T.range (pa_cons (pe_op op_add pe_int (pe_call GNext hr rfl U.mNext U.FNext.kp U.bNext .nil pass0 (pa_cons (pv 0) (pa_cons pe_int pa_nil)))) pa_nil)) (pg_name (i := 7) scLgoes.nd rfl (Or.inl rfl)) 
        (pss_cons (ps_set (i := 8) scLgoes.nd rfl (Or.inl rfl) (pe_ix ix_list (pe_lst (PA1.u (pa1_cons pe_str (pa1_cons pe_str (pa1_cons pe_str (pa1_cons pe_str (pa1_cons pe_str (pa1_cons pe_str pa1_nil)))))))) (pe_call GNext hr rfl U.mNext U.FNext.kp U.bNext .nil pass0 (pa_cons (pv 0) (pa_cons pe_int pa_nil))) (fun _ _ => rfl)))
        (pss_cons (ps_set (i := 9) scLgoes.nd rfl (Or.inl rfl) (pe_call GNext hr rfl U.mNext U.FNext.kp U.bNext .nil pass0 (pa_cons (pv 0) (pa_cons (pv 1) pa_nil))))
        (pss_cons (ps_set (i := 10) scLgoes.nd rfl (Or.inl rfl) (pe_op op_mod (pe_op op_add (pe_op op_add (pv 9) pe_int) (pe_call GNext hr rfl U.mNext U.FNext.kp U.bNext .nil pass0 (pa_cons (pv 0) (pa_cons (pe_op op_sub (pv 1) pe_int) pa_nil)))) (pv 1)))
        (pss_cons (ps_if (PW.pt (pw_and (pt_cmpR op_eq (pv 8) pe_str (nomark _)) (pw_and (pt_cmpR (op_neE hr.units) (pv 3) (pe_lst pa_nil) (nomark _)) (pw_and1 (pt_cmpR op_gt (pe_call GNext hr rfl U.mNext U.FNext.kp U.bNext .nil pass0 (pa_cons (pv 0) (pa_cons pe_int pa_nil))) pe_int (nomark _)))))) 
          (pss_one (ps_asg (pe_ix ix_list (pv 3) (pe_call GNext hr rfl U.mNext U.FNext.kp U.bNext .nil pass0 (pa_cons (pv 0) (pa_cons (pe_callB call_len_seq (by rfl) T.len PySem.boot_len (pa_cons (pv 3) pa_nil)) pa_nil))) (fun _ _ => rfl)) (pg_tup rfl (pgs_cons (pg_name (i := 9) scLgoes.nd rfl (Or.inl rfl)) (pgs_cons (pg_name (i := 10) scLgoes.nd rfl (Or.inl rfl)) pgs_nil))))) pss_nil)
        (pss_cons (ps_if (pt_cmpR op_eq (pe_call GNext hr rfl U.mNext U.FNext.kp U.bNext .nil pass0 (pa_cons (pv 0) (pa_cons pe_int pa_nil))) pe_int (nomark _)) 
          (pss_one (ps_par (i := 9) (j := 10) (by rfl) scLgoes.nd rfl rfl (by decide) rfl rfl (pa_cons (pv 10) (pa_cons (pv 9) pa_nil)) (by rfl))) pss_nil)
        (pss_cons (ps_set (i := 11) scLgoes.nd rfl (Or.inl rfl) (pe_tup (pa_cons (pe_callB (call_min2 rfl) (by rfl) T.min (by decide +kernel) (pa_cons (pv 9) (pa_cons (pv 10) pa_nil))) (pa_cons (pe_callB (call_max2 rfl) (by rfl) T.max (by decide +kernel) (pa_cons (pv 9) (pa_cons (pv 10) pa_nil))) pa_nil))))
        (pss_cons (ps_set (i := 12) scLgoes.nd rfl (Or.inl rfl) (pe_call GLdue hr rfl U.mLdue U.FLdue.kp U.bLdue .nil pass0 (pa_cons (pv 3) (pa_cons (pv 4) (pa_cons (pv 8) (pa_cons (pv 11) pa_nil))))))
        (pss_cons (ps_if (pt_cmpR op_ne (pe_call GLdone hr rfl U.mLdone U.FLdone.kp U.bLdone .nil pass0 (pa_cons (pv 2) (pa_cons (pv 8) (pa_cons (pv 9) (pa_cons (pv 10) pa_nil))))) (pv 12) (nomark _)) 
          (pss_one (ps_ret pe_bl)) pss_nil)
        (pss_cons (ps_if (PW.pt (pw_and (pt_cmpR op_eq (pv 12) pe_str (nomark _)) (pw_and1 (pt_cmpR op_eq (pv 8) pe_str (nomark _))))) 
          (pss_one (ps_set (i := 3) scLgoes.nd rfl (Or.inl rfl) (pe_bm0 PySem.F.plainAttrs_list PySem.F.slot_list_pop PySem.F.type_list_pop mt_pop (pv 4)))) 
          (pss_one (ps_if (pt_cmpR op_eq (pv 12) pe_str (nomark _)) 
            (pss_cons (ps_expr (pe_bm PySem.F.plainAttrs_list PySem.F.slot_list_append PySem.F.type_list_append mt_append (pv 4) (pa_cons (pv 3) pa_nil)))
            (pss_one (ps_set (i := 3) scLgoes.nd rfl (Or.inl rfl) (pe_call GLaft hr rfl U.mLaft U.FLaft.kp U.bLaft .nil pass0 (pa_cons (pv 3) (pa_cons (pv 8) (pa_cons (pv 11) pa_nil))))))) pss_nil)))
        (pss_cons (ps_expr (pe_bm PySem.F.plainAttrs_list PySem.F.slot_list_append PySem.F.type_list_append mt_append (pv 5) (pa_cons (pe_meth0 (pv 2) U.k_Desk U.mt_Desk_web GDkW hr U.bDkW .nil pass0) pa_nil)))
        (pss_cons (ps_expr (pe_bm PySem.F.plainAttrs_list PySem.F.slot_list_append PySem.F.type_list_append mt_append (pv 6) (pa_cons (pe_tup (pa_cons (pv 1) (pa_cons (pe_callTy call_tuple_of (by rfl) T.tuple (by decide +kernel) (pa_cons (pe_callB cr_sortedP (by rfl) T.sorted (by decide +kernel) (pa_cons (pv 3) pa_nil)) pa_nil)) pa_nil))) pa_nil)))
        (pss_one (ps_if (PW.pt (pw_or (pt_cmpR (op_neD hr.units) (pe_ix ix_list (pv 5) (pe_un un_neg pe_int) (fun _ _ => rfl)) (pe_ix ix_list (pv 6) (pe_un un_neg pe_int) (fun _ _ => rfl)) (nomark _)) (pw_or1 (pt_cmpR (op_neD hr.units) (pe_meth0 (pv 2) U.k_Desk U.mt_Desk_web GDkW hr U.bDkW .nil pass0) (pe_ix ix_list (pv 6) (pe_un un_neg pe_int) (fun _ _ => rfl)) (nomark _))))) 
          (pss_one (ps_ret pe_bl)) pss_nil))))))))))))))
      (pss_one (ps_ret (pe_cmpR (op_eqD hr.units) (pv 5) (pv 6) (nomark _)))))))))), ?_⟩
    have big : 3000 ≤ sizeLine := by decide
    refine ⟨_, rfl, fun a dx ha hdx hne => ?_⟩
    have s00 : Same H (upd (upd H dx (.own a)) a (.ins U.e_Desk dx [])) := (same_upd hdx).upd (by rw [upd_ne (Ne.symm hne)]; exact ha)
    refine ⟨a, dx, n, rfl, upd_same, hn3, hn, fun dl H1 kf hdl hd => ⟨rfl, ?_⟩⟩
    have dlN : H dl = none := s00.free hdl
    have s01 : Same H H1 := fun b o e => kf b o (s00 _ _ e) (ne_of_none e ha)
    clear kf s00 hdl hne hdx
    refine ⟨by show 0 ≤ sizeLine; decide, fun tl htl => ?_⟩
    have c1 : Same H1 (upd H1 tl (.lst [])) := same_upd htl
    have gtl : (upd H1 tl (.lst [])) tl = some (.lst []) := upd_same
    generalize (upd H1 tl (.lst [])) = H2 at *
    refine ⟨by show 0 ≤ sizeLine; decide, fun pa hpa => ?_⟩
    have c2 : Same H2 (upd H2 pa (.lst [])) := same_upd hpa
    have gpa : (upd H2 pa (.lst [])) pa = some (.lst []) := upd_same
    generalize (upd H2 pa (.lst [])) = H3 at *
    have d3 := hd.same (c1.trans c2)
    refine ⟨_, rfl, a, _, _, rfl, (d3.at_).choose_spec.choose_spec.1, rfl, a, dx, dl, n, [], [], rfl, d3, fun w hw => ⟨by show 1 ≤ sizeLine; decide, fun td htd => ?_⟩⟩
    have c3 : Same H3 (upd H3 td (.lst [w])) := same_upd htd
    have gtd : (upd H3 td (.lst [w])) td = some (.lst [w]) := upd_same
    generalize (upd H3 td (.lst [w])) = H4 at *
    refine ⟨_, rfl, by show 0 ≤ sizeLine; decide, fun e he => ⟨two_le, fun dd hdd => ⟨by show 1 ≤ sizeLine; decide, fun du hdu => ?_⟩⟩⟩
    have c4a : Same H4 (upd (upd H4 e (.tup [])) dd (.tup [.int n, .ref e])) := (same_upd he).upd hdd
    have hwd : WebAt (upd (upd H4 e (.tup [])) dd (.tup [.int n, .ref e])) (.ref dd) n [] := ⟨dd, e, [], rfl, upd_same, by rw [upd_ne (ne_of_none upd_same hdd), upd_same], .nil⟩
    generalize (upd (upd H4 e (.tup [])) dd (.tup [.int n, .ref e])) = H5 at *
    have c5 : Same H5 (upd H5 du (.lst [.ref dd])) := same_upd hdu
    have gdu : (upd H5 du (.lst [.ref dd])) du = some (.lst [.ref dd]) := upd_same
    have hwd6 := hwd.same (SameT.of c5)
    generalize (upd H5 du (.lst [.ref dd])) = H6 at *
    have c15 := ((c1.trans c2).trans c3).trans c4a
    have c16 := c15.trans c5
    have s06 := s01.trans c16
    obtain ⟨w0, ys0, i1, _, i2, _⟩ := hd.at_
    have hx1 := hx.same s01
    have hx3 := hx1.same (c1.trans c2)
    have hx2 := hx1.same c1
    have npl : p ≠ tl := hx1.ne htl
    have npp : p ≠ pa := hx2.ne hpa
    have npt : p ≠ td := hx3.ne htd
    have npu : p ≠ du := (hx1.same c15).ne hdu
    have nal : a ≠ tl := ne_of_none i1 htl
    have nap : a ≠ pa := ne_of_none (c1 _ _ i1) hpa
    have nat_ : a ≠ td := ne_of_none ((c1.trans c2) _ _ i1) htd
    have nau : a ≠ du := ne_of_none (c15 _ _ i1) hdu
    have ndl : dl ≠ tl := ne_of_none i2 htl
    have ndp : dl ≠ pa := ne_of_none (c1 _ _ i2) hpa
    have ndt : dl ≠ td := ne_of_none ((c1.trans c2) _ _ i2) htd
    have ndu : dl ≠ du := ne_of_none (c15 _ _ i2) hdu
    have nlp : tl ≠ pa := ne_of_none gtl hpa
    have nlt : tl ≠ td := ne_of_none (c2 _ _ gtl) htd
    have nlu : tl ≠ du := ne_of_none ((c2.trans (c3.trans c4a)) _ _ gtl) hdu
    have ppt : pa ≠ td := ne_of_none gpa htd
    have ppu : pa ≠ du := ne_of_none ((c3.trans c4a) _ _ gpa) hdu
    have ttu : td ≠ du := ne_of_none (c4a _ _ gtd) hdu
    have g0 : Go U.e_Desk H6 p a dx dl td du pa tl n [] [] [] [] [[]] [[]] := by
      refine ⟨hx1.same c16, hd.same c16, ⟨tl, [], rfl, ?_, (c2.trans ((c3.trans c4a).trans c5)) _ _ gtl, .nil⟩, ⟨[], ((c3.trans c4a).trans c5) _ _ gpa, .nil⟩, ⟨[w], (c4a.trans c5) _ _ gtd, .cons (hw.same (SameT.of ((c3.trans c4a).trans c5))) .nil⟩, ⟨[.ref dd], gdu, .cons hwd6 .nil⟩, hx.ne ha, hx.ne dlN, ?_, ?_, ?_⟩ <;>
      · simp only [List.mem_cons, List.not_mem_nil, or_false, not_or]
        refine ⟨?_, ?_, ?_⟩ <;> first | (refine ⟨?_, ?_, ?_, ?_⟩ <;> first | assumption | (apply Ne.symm; assumption)) | (refine ⟨?_, ?_, ?_⟩ <;> first | assumption | (apply Ne.symm; assumption)) | (refine ⟨?_, ?_⟩ <;> first | assumption | (apply Ne.symm; assumption)) | assumption | (apply Ne.symm; assumption)
    have aN := ha
    have tdN : H td = none := (s01.trans (c1.trans c2)).free htd
    have duN : H du = none := (s01.trans c15).free hdu
    have paN : H pa = none := (s01.trans c1).free hpa
    clear npl npp npt npu nal nap nat_ nau ndl ndp ndt ndu nlp nlt nlu ppt ppu ttu hwd hwd6 gdu gtd gpa gtl c5 c4a c3 c2 c1 c15 c16 htl hpa htd he hdd hdu hx1 hx2 hx3 i1 i2 hw d3 hd hx s01
    refine ⟨_, rfl, p, 19, rfl, g0.hxs, by decide, fun d H7 d0 d1 hx7 sb7 => ⟨_, _, rfl, rfl, _, rfl, by omega, by omega, ?_⟩⟩
    have g7 := g0.next sb7 hx7
    have sb07 := s06.but.trans sb7
    clear g0 s06 sb7 hx7
    refine for_range (lo := 0) (n := (12 + d).toNat) (fun i σ H2 => ∃ (tl : Addr) (ps ds us : List Pr) (Us ws : List (List Pr)) (o7 o8 o9 o10 o11 o12 : Option V), σ = [some (.ref p), some (.int n), some (.ref a), some (.ref tl), some (.ref pa), some (.ref td), some (.ref du), o7, o8, o9, o10, o11, o12] ∧ Go U.e_Desk H2 p a dx dl td du pa tl n ps ds us Us ws ws ∧ Und us Us ds ∧ (∀ q, q ∈ us ↔ q ∈ ps) ∧ InR n ds ∧ ds.length ≤ i ∧ SameBut p H H2 ∧ (∀ q ∈ ws, Good n q) ∧ ws.length ≤ i + 1)
      ⟨tl, [], [], [], [], [[]], _, _, _, _, _, _, rfl, g7, .nil, (fun q => Iff.rfl), (fun t h => by cases h), Nat.le_refl _, sb07, (fun q hq => by rw [List.mem_singleton.mp hq]; exact ⟨.nil, fun p h => by cases h⟩), Nat.le_refl _⟩ ?_ ?_
    rotate_left
    · rintro σ H2 ⟨tl, ps, ds, us, Us, ws, o7, o8, o9, o10, o11, o12, rfl, g, hU, hm, hI, hl, sb, hws, hwl⟩
      obtain ⟨yt, et, ht⟩ := g.htd
      obtain ⟨yu, eu, hu⟩ := g.hdu
      exact ⟨_, rfl, _, rfl, eqD_sameA (.lst (SqL.of et) (dp_webs ht)) (.lst (SqL.of eu) (dp_webs hu)) (shp_webs hn hws) (q H2 sb g.hxs)⟩
    rintro i σ H2 hi ⟨tl, ps, ds, us, Us, ws, o7, o8, o9, o10, o11, o12, rfl, g2, hU, hm, hI, hl, sb02, hws, hwl⟩
    have hi31 : i < 31 := by omega
    refine ⟨by show 6 ≤ sizeLine; decide, fun wl hwl2 => ?_⟩
    have c1 : Same H2 (upd H2 wl (.lst [V.str "put", .str "put", .str "put", .str "take", .str "take", .str "back"])) := same_upd hwl2
    have gwl : (upd H2 wl (.lst [V.str "put", .str "put", .str "put", .str "take", .str "take", .str "back"])) wl = some (.lst [V.str "put", .str "put", .str "put", .str "take", .str "take", .str "back"]) := upd_same
    have npw : p ≠ wl := g2.hxs.ne hwl2
    have g3 := g2.same c1
    have sb03 := sb02.trans c1.but
    generalize (upd H2 wl (.lst [V.str "put", .str "put", .str "put", .str "take", .str "take", .str "back"])) = H3 at *
    refine ⟨_, rfl, p, 6, rfl, g3.hxs, by decide, fun d H4 d0 d1 hx4 sb4 => ?_⟩
    obtain ⟨k2, v, hv, hvk⟩ := at_get46 (xs := [V.str "put", .str "put", .str "put", .str "take", .str "take", .str "back"]) d0 (by show d < 6; omega)
    refine ⟨wl, _, _, _, rfl, rfl, SqL.of (sb4 _ _ gwl npw.symm), hv, ?_⟩
    obtain ⟨wd, rfl, hwd⟩ : ∃ wd : Str, v = .str wd ∧ (wd = "back" ∨ wd = "put" ∨ wd = "take") := by
      have := List.mem_of_getElem? hvk
      simp only [List.mem_cons, List.not_mem_nil, or_false] at this
      rcases this with rfl | rfl | rfl | rfl | rfl | rfl
      · exact ⟨_, rfl, .inr (.inl rfl)⟩
      · exact ⟨_, rfl, .inr (.inl rfl)⟩
      · exact ⟨_, rfl, .inr (.inl rfl)⟩
      · exact ⟨_, rfl, .inr (.inr rfl)⟩
      · exact ⟨_, rfl, .inr (.inr rfl)⟩
      · exact ⟨_, rfl, .inl rfl⟩
    have g4 := g3.next sb4 hx4
    have sb04 := sb03.trans sb4
    clear g2 g3 c1 gwl npw hwl2 sb4 hv hvk sb03 sb02 d0 d1
    refine ⟨_, rfl, _, rfl, p, n, rfl, hx4, by omega, fun x H5 x0 x1 hx5 sb5 => ?_⟩
    refine ⟨_, rfl, _, _, rfl, rfl, _, rfl, _, rfl, _, _, rfl, rfl, p, (n : Int) - 1, rfl, hx5, by omega, fun e H6 e0 e1 hx6 sb6 => ⟨_, _, rfl, rfl, _, rfl, _, _, rfl, rfl, (by show (0 : Int) < n; omega), ?_⟩⟩
    have hxy := mod_ne x0 x1 e0 e1
    show gName 10 (V.int ((x + 1 + e) % (n : Int))) _ _ _
    generalize (x + 1 + e) % (n : Int) = y at hxy ⊢
    have g6 := (g4.next sb5 hx5).next sb6 hx6
    have sb06 := (sb04.trans sb5).trans sb6
    clear g4 sb5 sb6 hx4 hx5 hx6 sb04
    dsimp only
    refine seq_midA (fun σ H8 => ∃ (x y : Int) (o7 o11 o12 : Option V), σ = [some (.ref p), some (.int n), some (.ref a), some (.ref tl), some (.ref pa), some (.ref td), some (.ref du), o7, some (.str wd), some (.int x), some (.int y), o11, o12] ∧ ((0 ≤ x ∧ x < (n : Int)) ∧ (0 ≤ y ∧ y < (n : Int)) ∧ x ≠ y) ∧ Go U.e_Desk H8 p a dx dl td du pa tl n ps ds us Us ws ws ∧ SameBut p H H8) (fun N hN => ?_) ?_
    · obtain ⟨b0, zs, eb, nb, e2, e3⟩ := g6.htl
      have eb := V.ref.inj eb
      subst eb
      have zl := Paired.length e3
      refine ⟨_, rfl, rfl, _, rfl, ?_⟩
      have base : ((0 ≤ x ∧ x < (n : Int)) ∧ (0 ≤ y ∧ y < (n : Int)) ∧ x ≠ y) := ⟨⟨x0, x1⟩, hxy.1, hxy.2⟩
      refine ite2 (fun _ => ?_) (fun _ => iteF (hN _ _ ⟨x, y, _, _, _, rfl, base, g6, sb06⟩))
      refine ⟨_, rfl, by show 0 ≤ sizeLine; decide, fun e he => ?_⟩
      have c1 : Same H6 (upd H6 e (.lst [])) := same_upd he
      have ge : (upd H6 e (.lst [])) e = some (.lst []) := upd_same
      have g7 := g6.same c1
      have sb07 := sb06.trans c1.but
      have e27 := c1 _ _ e2
      have e37 := PairsAt.mono (SameT.of c1) e3
      generalize (upd H6 e (.lst [])) = H7 at *
      refine ⟨tl, e, _, rfl, rfl, SqL.of e27, SqL.of ge, _, rfl, ?_⟩
      refine ite2 (fun c => ?_) (fun _ => iteF (hN _ _ ⟨x, y, _, _, _, rfl, base, g7, sb07⟩))
      have c : zs.length ≠ 0 := by simpa using c
      refine ⟨_, rfl, p, 4, rfl, g7.hxs, by decide, fun d H8 d0 d1 hx8 sb8 => ⟨_, _, rfl, rfl, _, rfl, ?_⟩⟩
      have g8 := g7.next sb8 hx8
      have nbp : tl ≠ p := fun z => nb (by rw [z]; exact List.mem_cons_self)
      have e28 := sb8 _ _ e27 nbp
      have m8 := g7.hxs.tup sb8
      refine ite2 (fun _ => ?_) (fun _ => hN _ _ ⟨x, y, _, _, _, rfl, base, g8, sb07.trans sb8⟩)
      refine ⟨_, rfl, _, rfl, _, rfl, tl, _, rfl, .inl (SqL.of e28), p, (zs.length : Int), rfl, hx8, by omega, fun f H9 f0 f1 hx9 sb9 => ?_⟩
      obtain ⟨k3, v3, hv3, hvk3⟩ := at_get46 f0 f1
      obtain ⟨u, r, hu, rfl, hr⟩ := PairsAt.get e37 hvk3
      have m9 := m8.trans (hx8.tup sb9)
      refine ⟨tl, _, _, _, rfl, rfl, SqL.of (sb9 _ _ e28 nbp), hv3, ?_⟩
      refine ⟨r, _, rfl, SqT.of (m9 _ _ hr), rfl, _, _, rfl, _, _, rfl, rfl, ?_⟩
      have lo := g6.hdk.good.lo u ((hm u).mp (List.mem_of_getElem? hu))
      exact hN _ _ ⟨u.1, u.2, _, _, _, rfl, ⟨⟨lo.1, by omega⟩, ⟨by omega, lo.2.2⟩, by omega⟩, g8.next sb9 hx9, (sb07.trans sb8).trans sb9⟩
    clear g6 sb06 hxy x0 x1 e0 e1
    rintro σ H8 ⟨x, y, o7, o11, o12, rfl, hxy, g8, sb08⟩
    refine seq_midA (fun σ H8 => ∃ (x y : Int) (o7 o11 o12 : Option V), σ = [some (.ref p), some (.int n), some (.ref a), some (.ref tl), some (.ref pa), some (.ref td), some (.ref du), o7, some (.str wd), some (.int x), some (.int y), o11, o12] ∧ ((0 ≤ x ∧ x < (n : Int)) ∧ (0 ≤ y ∧ y < (n : Int)) ∧ x ≠ y) ∧ Go U.e_Desk H8 p a dx dl td du pa tl n ps ds us Us ws ws ∧ SameBut p H H8) (fun N hN => ?_) ?_
    · refine ⟨_, rfl, p, 2, rfl, g8.hxs, by decide, fun d H9 d0 d1 hx9 sb9 => ⟨rfl, _, rfl, ?_⟩⟩
      have g9 := g8.next sb9 hx9
      refine ite2 (fun _ => ?_) (fun _ => hN _ _ ⟨x, y, _, _, _, rfl, hxy, g9, sb08.trans sb9⟩)
      exact ⟨_, rfl, _, rfl, _, _, rfl, hN _ _ ⟨y, x, _, _, _, rfl, ⟨hxy.2.1, hxy.1, hxy.2.2.symm⟩, g9, sb08.trans sb9⟩⟩
    clear g8 sb08 hxy
    rintro σ H8 ⟨x, y, o7, o11, o12, rfl, hxy, g8, sb08⟩
    refine ⟨_, rfl, _, rfl, _, _, rfl, _, rfl, _, rfl, _, _, rfl, two_le, fun r hr => ?_⟩
    have c1 : Same H8 (upd H8 r (.tup [V.int (if y < x then y else x), V.int (if y > x then y else x)])) := same_upd hr
    have gr : (upd H8 r (.tup [V.int (if y < x then y else x), V.int (if y > x then y else x)])) r = some (.tup [.int (mn x y), .int (mx x y)]) := upd_same
    have g9 := g8.same c1
    have sb09 := sb08.trans c1.but
    generalize (upd H8 r (.tup [V.int (if y < x then y else x), V.int (if y > x then y else x)])) = H9 at *
    clear g8 sb08 c1 hr
    have hul : us.length ≤ 190 := Nat.le_trans (nodup_len us ps hU.nd fun x hx => (hm x).mp hx) (good_190 g9.hdk.good hn)
    obtain ⟨b0, zs, eb, nb, e2, e3⟩ := g9.htl
    have eb := V.ref.inj eb
    subst eb
    obtain ⟨yp, ep, hp⟩ := g9.hpa
    have hk : yp.length = ds.length := (Paired.length hp).trans hU.len
    refine ⟨_, rfl, _, rfl, _, rfl, _, rfl, tl, pa, r, zs, yp, us, wd, pr x y, rfl, e2, e3, ep, gr, hwd, fun ans HA sA hdue => ?_⟩
    have gA := g9.same sA
    have sb0A := sb09.trans sA.but
    have grA := sA _ _ gr
    clear g9 sb09 gr sA e2 e3 ep hp nb
    refine ⟨_, rfl, _, rfl, _, rfl, _, rfl, a, dx, dl, n, ps, ds, wd, x, y, rfl, gA.hdk, by omega, hI, ?_, fun ans' qs es HB hD kB dB => ?_⟩
    · rcases hwd with h | h | h
      · exact .inl h
      · exact .inr ⟨.inl h, hxy⟩
      · exact .inr ⟨.inr h, hxy⟩
    have eqa := done_due hm hk hD hdue
    subst eqa
    refine ⟨_, rfl, rfl, _, rfl, ?_⟩
    refine iteB (c := false) (by simp) (iteF ?_)
    have gB := gA.desk kB dB
    have sb0B : SameBut p H HB := fun b o h nb => kB b o (sb0A b o h nb) (ne_of_none h aN) (ne_of_none h dlN)
    have grB := gA.hdk.tup kB _ _ grA
    obtain ⟨hIe, hle⟩ := done_inR hI hxy hD
    clear gA sb0A grA kB dB hdue hI
    dsimp only [tNext]
    refine seq_midA (fun σ H' => ∃ (tl' : Addr) (us' : List Pr) (Us' : List (List Pr)) (o7 o8 o9 o10 o11 o12 : Option V), σ = [some (.ref p), some (.int n), some (.ref a), some (.ref tl'), some (.ref pa), some (.ref td), some (.ref du), o7, o8, o9, o10, o11, o12] ∧ Go U.e_Desk H' p a dx dl td du pa tl' n qs es us' Us' ws ws ∧ Und us' Us' es ∧ (∀ q, q ∈ us' ↔ q ∈ qs) ∧ SameBut p H H') (fun N hN => ?_) ?_
    · obtain ⟨b0, zs, eb, nb, e2, e3⟩ := gB.htl
      have eb := V.ref.inj eb
      subst eb
      obtain ⟨yp, ep, hp⟩ := gB.hpa
      have hk : yp.length = ds.length := (Paired.length hp).trans hU.len
      cases hD with
      | putN c => exact ⟨_, rfl, rfl, _, rfl, iteB (c := false) (by rfl) (iteF (iteF ⟨_, rfl, rfl, _, rfl, iteB (c := false) (by rfl) (iteF (hN _ _ ⟨tl, us, Us, _, _, _, _, _, _, rfl, gB, hU, hm, sb0B⟩))⟩))⟩
      | takeN c => exact ⟨_, rfl, rfl, _, rfl, iteB (c := false) (by rfl) (iteF (iteF ⟨_, rfl, rfl, _, rfl, iteB (c := false) (by rfl) (iteF (hN _ _ ⟨tl, us, Us, _, _, _, _, _, _, rfl, gB, hU, hm, sb0B⟩))⟩))⟩
      | backN c => exact ⟨_, rfl, rfl, _, rfl, iteB (c := false) (by rfl) (iteF (iteF ⟨_, rfl, rfl, _, rfl, iteB (c := false) (by rfl) (iteF (hN _ _ ⟨tl, us, Us, _, _, _, _, _, _, rfl, gB, hU, hm, sb0B⟩))⟩))⟩
      | putY c hQ =>
        refine ⟨_, rfl, rfl, _, rfl, iteB (c := true) (by rfl) (iteT ⟨_, rfl, rfl, _, rfl, iteB (c := false) (by rfl) (iteF ⟨_, rfl, rfl, _, rfl, iteB (c := true) (by rfl) (iteT ?_)⟩)⟩)⟩
        refine ⟨_, rfl, .inl ⟨rfl, _, SqL.of ep⟩, _, rfl, pa, yp, .ref tl, rfl, rfl, ep, by omega, ?_⟩
        have gC := gB.onPa (ys := yp ++ [.ref tl]) (Us' := Us ++ [us]) (Paired.snoc hp gB.htl) gB.htl
        have sb0C : SameBut p H (upd HB pa (.lst (yp ++ [.ref tl]))) := sb0B.freshN paN
        have npt : tl ≠ pa := fun z => nb (by rw [z]; simp)
        have e2C : (upd HB pa (.lst (yp ++ [.ref tl]))) tl = some (.lst zs) := by rw [upd_ne npt]; exact e2
        have mC : SameT HB (upd HB pa (.lst (yp ++ [.ref tl]))) := SameT.lst ep
        have grC := mC _ _ grB
        have e3C := PairsAt.mono mC e3
        generalize (upd HB pa (.lst (yp ++ [.ref tl]))) = HC at *
        refine ⟨_, rfl, _, rfl, _, rfl, tl, r, zs, us, "put", pr x y, rfl, e2C, e3C, by omega, grC, .inl rfl, fun L ys qs2 HD hLN sD hL hP hq => ?_⟩
        obtain rfl : qs2 = us ++ [pr x y] := by
          rcases hq with ⟨_, h⟩ | ⟨h, _⟩
          · exact h
          · exact absurd h (by decide)
        exact hN _ _ ⟨L, _, _, _, _, _, _, _, _, rfl, (gC.same sD).reTl ⟨L, ys, rfl, gC.fresh hLN, hL, hP⟩, .put hU (fun z => c ((hm _).mp z)), fun q => by rw [List.mem_append, List.mem_singleton, hm q]; exact (hQ q).symm, sb0C.trans sD.but⟩
      | takeY c hQ =>
        refine ⟨_, rfl, rfl, _, rfl, iteB (c := true) (by rfl) (iteT ⟨_, rfl, rfl, _, rfl, iteB (c := false) (by rfl) (iteF ⟨_, rfl, rfl, _, rfl, iteB (c := true) (by rfl) (iteT ?_)⟩)⟩)⟩
        refine ⟨_, rfl, .inl ⟨rfl, _, SqL.of ep⟩, _, rfl, pa, yp, .ref tl, rfl, rfl, ep, by omega, ?_⟩
        have gC := gB.onPa (ys := yp ++ [.ref tl]) (Us' := Us ++ [us]) (Paired.snoc hp gB.htl) gB.htl
        have sb0C : SameBut p H (upd HB pa (.lst (yp ++ [.ref tl]))) := sb0B.freshN paN
        have npt : tl ≠ pa := fun z => nb (by rw [z]; simp)
        have e2C : (upd HB pa (.lst (yp ++ [.ref tl]))) tl = some (.lst zs) := by rw [upd_ne npt]; exact e2
        have mC : SameT HB (upd HB pa (.lst (yp ++ [.ref tl]))) := SameT.lst ep
        have grC := mC _ _ grB
        have e3C := PairsAt.mono mC e3
        generalize (upd HB pa (.lst (yp ++ [.ref tl]))) = HC at *
        refine ⟨_, rfl, _, rfl, _, rfl, tl, r, zs, us, "take", pr x y, rfl, e2C, e3C, by omega, grC, .inr rfl, fun L ys qs2 HD hLN sD hL hP hq => ?_⟩
        obtain rfl : qs2 = us.filter fun q => !decide (q = pr x y) := by
          rcases hq with ⟨h, _⟩ | ⟨_, h⟩
          · exact absurd h (by decide)
          · exact h
        exact hN _ _ ⟨L, _, _, _, _, _, _, _, _, rfl, (gC.same sD).reTl ⟨L, ys, rfl, gC.fresh hLN, hL, hP⟩, .take hU ((hm _).mpr c), fun q => by rw [List.mem_filter, Bool.not_eq_true', decide_eq_false_iff_not, hm q]; exact (hQ q).symm, sb0C.trans sD.but⟩
      | backY e h1 h2 =>
        rename_i u
        refine ⟨_, rfl, rfl, _, rfl, iteB (c := true) (by rfl) (iteT ⟨_, rfl, rfl, _, rfl, iteB (c := true) (by rfl) (iteT ?_)⟩)⟩
        obtain ⟨us1, Us1, eU, hU1, hcase⟩ := hU.inv e
        subst eU
        obtain ⟨yp1, v, ey, hv⟩ := paired_last46 Us1 hp
        subst ey
        obtain ⟨b1, zs1, rfl, nb1, f2, f3⟩ := id hv
        have hp1 : Paired (PastA HB [p, a, dl, td, du, pa]) yp1 Us1 := paired_front46 hp
        refine ⟨_, rfl, .inl ⟨rfl, _, SqL.of ep⟩, pa, _, .ref b1, rfl, rfl, ep, by simp, ?_⟩
        rw [List.dropLast_concat]
        have gC := gB.onPa (ys := yp1) (Us' := Us1) hp1 hv
        have sb0C : SameBut p H (upd HB pa (.lst yp1)) := sb0B.freshN paN
        refine hN _ _ ⟨b1, us1, Us1, _, _, _, _, _, _, rfl, gC, hU1, fun q => ?_, sb0C⟩
        rcases hcase with ⟨c, rfl⟩ | ⟨c, rfl⟩
        · have hup : u ∈ ps := (hm u).mp (by simp)
          have := h1 hup q
          rw [this, ← hm q, List.mem_append, List.mem_singleton]
          constructor
          · intro h; exact ⟨.inl h, fun z => c (z ▸ h)⟩
          · rintro ⟨h | h, n⟩
            · exact h
            · exact absurd h n
        · have hup : u ∉ ps := fun z => by
            have := (hm u).mpr z
            rw [List.mem_filter] at this
            simp at this
          have := h2 hup q
          rw [this, ← hm q, List.mem_filter, Bool.not_eq_true', decide_eq_false_iff_not]
          constructor
          · intro h
            by_cases z : q = u
            · exact .inr z
            · exact .inl ⟨h, z⟩
          · rintro (⟨h, _⟩ | h)
            · exact h
            · rw [h]; exact c
    clear gB sb0B grB hD hm hU hk hul
    rintro σ HC ⟨tl', us', Us', o7, o8, o9, o10, o11, o12, rfl, gC, hU', hm', sb0C⟩
    obtain ⟨yt, et, ht⟩ := gC.htd
    have ytl := Paired.length ht
    refine ⟨_, rfl, .inl ⟨rfl, _, SqL.of et⟩, _, rfl, a, _, _, rfl, (gC.hdk.at_).choose_spec.choose_spec.1, rfl, a, dx, dl, n, qs, es, rfl, gC.hdk, fun w hw => ⟨td, yt, w, rfl, rfl, et, by omega, ?_⟩⟩
    have gD := gC.onTd (ys := yt ++ [w]) (wt' := ws ++ [qs]) (Paired.snoc ht hw)
    have sb0D : SameBut p H (upd HC td (.lst (yt ++ [w]))) := sb0C.freshN tdN
    generalize (upd HC td (.lst (yt ++ [w]))) = HD at *
    clear gC sb0C et ht hw ytl
    obtain ⟨yu, eu, hu⟩ := gD.hdu
    have yul := Paired.length hu
    obtain ⟨b0, zs, eb, nb, e2, e3⟩ := gD.htl
    have eb := V.ref.inj eb
    subst eb
    refine ⟨_, rfl, .inl ⟨rfl, _, SqL.of eu⟩, _, rfl, _, rfl, tl', zs, rfl, SqL.of e2, (gP_of e3).2, fun vs r9 hperm hsort hr9 => ?_⟩
    obtain ⟨hz, hzp⟩ := sorted_prs e3 hperm
    refine ⟨r9, vs, rfl, .inl ⟨SqL.of upd_same, fun c9 hc9 => ⟨two_le, fun d9 hd9 => ?_⟩⟩⟩
    have s9 : Same HD (upd (upd (upd HD r9 (.lst vs)) c9 (.tup vs)) d9 (.tup [.int n, .ref c9])) := ((same_upd hr9).upd hc9).upd hd9
    have hw9 : WebAt (upd (upd (upd HD r9 (.lst vs)) c9 (.tup vs)) d9 (.tup [.int n, .ref c9])) (.ref d9) n (vs.map (gP HD)) := ⟨d9, c9, vs, rfl, upd_same, by rw [upd_ne (ne_of_none upd_same hd9), upd_same], PairsAt.mono (SameT.of s9) hz⟩
    have mem : ∀ q, q ∈ vs.map (gP HD) ↔ q ∈ qs := fun q => hzp.mem_iff.trans (hm' q)
    have eqs : vs.map (gP HD) = qs := good_eq (n := (n : Int)) ⟨lt2_of_le2 hsort (hzp.nodup_iff.mpr hU'.nd), fun q hq => gD.hdk.good.lo q ((mem q).mp hq)⟩ gD.hdk.good mem
    rw [eqs] at hw9
    have gE := gD.same s9
    have euE := s9 _ _ eu
    have huE : WsAt (upd (upd (upd HD r9 (.lst vs)) c9 (.tup vs)) d9 (.tup [.int n, .ref c9])) n yu ws := L2.Paired.mapP hu fun v u h => h.same (SameT.of s9)
    have sb0E := sb0D.trans s9.but
    generalize (upd (upd (upd HD r9 (.lst vs)) c9 (.tup vs)) d9 (.tup [.int n, .ref c9])) = HE at *
    clear gD sb0D hz hzp hperm hsort hr9 hc9 hd9 mem eqs e2 e3 eu hu s9 nb
    refine ⟨du, yu, .ref d9, rfl, rfl, euE, by omega, ?_⟩
    have gF := gE.onDu (ys := yu ++ [.ref d9]) (wu' := ws ++ [qs]) (Paired.snoc huE hw9)
    have sb0F : SameBut p H (upd HE du (.lst (yu ++ [.ref d9]))) := sb0E.freshN duN
    generalize (upd HE du (.lst (yu ++ [.ref d9]))) = HF at *
    clear gE sb0E huE hw9 euE yul
    obtain ⟨yt2, et2, ht2⟩ := gF.htd
    obtain ⟨yu2, eu2, hu2⟩ := gF.hdu
    obtain ⟨m1, v1, ey1, hv1⟩ := paired_last46 ws ht2
    obtain ⟨m2, v2, ey2, hv2⟩ := paired_last46 ws hu2
    have shp := shp_web46 hn gF.hdk.good
    refine ⟨_, rfl, _, rfl, td, _, _, _, rfl, rfl, SqL.of et2, atI_last46 ey1, _, rfl, _, rfl, du, _, _, _, rfl, rfl, SqL.of eu2, atI_last46 ey2, neD_sameA (dp_webV hv1) (dp_webV hv2) shp ⟨_, rfl, iteF ?_⟩⟩
    refine ⟨_, rfl, a, _, _, rfl, (gF.hdk.at_).choose_spec.choose_spec.1, rfl, a, dx, dl, n, qs, es, rfl, gF.hdk, fun w2 hw2 => ⟨_, rfl, _, rfl, du, _, _, _, rfl, rfl, SqL.of eu2, atI_last46 ey2, neD_sameA (dp_webV hw2) (dp_webV hv2) shp ⟨_, rfl, iteF ?_⟩⟩⟩
    refine ⟨tl', qs, es, us', Us', ws ++ [qs], _, _, _, _, _, _, rfl, gF, hU', hm', hIe, by omega, sb0F, fun q hq => ?_, by rw [List.length_append, List.length_singleton]; omega⟩
    rcases List.mem_append.mp hq with h | h
    · exact hws q h
    · rw [List.mem_singleton.mp h]; exact gF.hdk.good
end
end Wb

end
section
set_option Elab.async false
set_option linter.all false
set_option maxRecDepth 100000
namespace Wb
open PySem L2
section
variable {P : Program} {w : World} {K : PySem.W.Frag} {mg : Str → Option Value} {base : Heap}
/-! ### _law_all_back -/
inductive Bk (n : Nat) : List (List Pr) → List Pr → List Pr → Prop
  | nil : Bk n [[]] [] []
  | put {w : List (List Pr)} {ps ds qs : List Pr} {t : Pr} : Bk n w ps ds → t ∉ ps → AddQ ps t qs → Good n qs → Bk n (w ++ [qs]) qs (ds ++ [t])
theorem Bk.last {n : Nat} {w : List (List Pr)} {ps ds : List Pr} (h : Bk n w ps ds) : ∃ w', w = w' ++ [ps] := by
  cases h with
  | nil => exact ⟨[], rfl⟩
  | put _ _ _ _ => exact ⟨_, rfl⟩
theorem Bk.good {n : Nat} {w : List (List Pr)} {ps ds : List Pr} (h : Bk n w ps ds) : Good n ps := by
  cases h with
  | nil => exact ⟨.nil, fun p h => by cases h⟩
  | put _ _ _ g => exact g
theorem Bk.mem {n : Nat} {w : List (List Pr)} {ps ds : List Pr} (h : Bk n w ps ds) : ∀ q, q ∈ ds ↔ q ∈ ps := by
  induction h with
  | nil => exact fun q => Iff.rfl
  | put _ _ hQ _ ih => exact fun q => by rw [List.mem_append, List.mem_singleton, ih q]; exact (hQ q).symm
theorem Bk.nd {n : Nat} {w : List (List Pr)} {ps ds : List Pr} (h : Bk n w ps ds) : ds.Nodup := by
  induction h with
  | nil => exact .nil
  | put h c _ _ ih => exact List.nodup_append.mpr ⟨ih, by simp, fun x hx y hy e => by rw [List.mem_singleton.mp hy] at e; subst e; exact c ((h.mem _).mp hx)⟩
theorem Bk.len {n : Nat} {w : List (List Pr)} {ps ds : List Pr} (h : Bk n w ps ds) : w.length = ds.length + 1 := by
  induction h with
  | nil => rfl
  | put _ _ _ _ ih => rw [List.length_append, List.length_append, ih]; rfl
theorem Bk.inv {n : Nat} {w : List (List Pr)} {ps ds es : List Pr} {t : Pr} (h : Bk n w ps ds) (e : ds = es ++ [t]) : ∃ w' qs, w = w' ++ [ps] ∧ Bk n w' qs es ∧ t ∉ qs ∧ AddQ qs t ps := by
  cases h with
  | nil => simp at e
  | put h c hQ g =>
    obtain ⟨e1, e2⟩ := List.append_inj' e rfl
    injection e2 with e2
    subst e1 e2
    exact ⟨_, _, rfl, h, c, hQ⟩
theorem Bk.inR {n : Nat} {w : List (List Pr)} {ps ds : List Pr} (h : Bk n w ps ds) : InR n ds := fun t ht => h.good.lo t ((h.mem t).mp ht)
theorem Bk.few {n : Nat} {w : List (List Pr)} {ps ds : List Pr} (h : Bk n w ps ds) (hn : n ≤ 20) : ds.length ≤ 190 := Nat.le_trans (nodup_len ds ps h.nd fun x hx => (h.mem x).mp hx) (good_190 h.good hn)
structure Jb (C : Addr) (H0 H : Hp) (p a dx dl td tb : Addr) (n : Nat) (ps ds : List Pr) (wt : List (List Pr)) : Prop where
  hxs : XsAt H p
  hdk : DeskAt C H a dx dl n ps ds
  htd : ∃ ys, H td = some (.lst ys) ∧ WsAt H n ys wt
  hbk : Bk n wt ps ds
  hsb : SameBut p H0 H
theorem pr_gt {x y : Int} (h : x < y) : pr y x = (x, y) := by
  unfold pr mn mx
  refine Prod.ext ?_ ?_ <;> (show (if _ then _ else _) = _) <;> split <;> omega
def spLback (K : PySem.W.Frag) : Sp := fun vs H Q _ => ∃ (p : Addr), vs = [.ref p] ∧ XsAt H p ∧ ∀ H', SameBut p H H' → XsAt H' p → Q (.bl true) H'
abbrev nmLback : List Str := ["_law_xs", "_law_many", "_law_share", "_law_desk", "_law_told", "_law_ties", "_law_a", "_law_b"]
theorem scLback : FnScope nmLback ["_law_xs"] (defScope sLback) := ⟨rfl, rfl, rfl, by decide +kernel, rfl, by decide +kernel, by decide +kernel⟩
set_option maxHeartbeats 8000000 in
theorem ok_Lback (U : Fs K mg) (T : Bl mg) : FnOk P w K mg base CX0 8 U.aLback U.dLback ["_law_xs"] (spLback K) := by
  have GNext : FnOk P w K mg base CX0 7 U.aNext U.dNext ["_law_xs", "_law_many"] spNextX := (ok_Next U T).mono (by decide)
  have GDkI : FnOk P w K mg base (CX3 P w) 6 U.aDkI U.dDkI ["self", "many"] (spDkI K U.e_Desk) := (ok_DkI U T).mono (by decide)
  have GDkW : FnOk P w K mg base CX0 7 U.aDkW U.dDkW ["self"] (spDkW K U.e_Desk) := (ok_DkW U T).mono (by decide)
  have GDkP : FnOk P w K mg base (CX3 P w) 7 U.aDkP U.dDkP ["self", "a", "b"] (spDkP K U.e_Desk U.e_NoTie) := (ok_DkP U T).mono (by decide)
  have GLdone : FnOk P w K mg base CX0 7 U.aLdone U.dLdone ["_law_desk", "_law_word", "_law_a", "_law_b"] (spLdone K U.e_Desk) := (ok_Ldone U T).mono (by decide)
  refine U.FLback.ok scLback (fun vs H Q E h => ?_) (fun cdv A outer s H vs Q E hr h => ?_)
  · obtain ⟨p, rfl, _⟩ := h
    rfl
  · obtain ⟨p, rfl, hx, q⟩ := h
    refine ⟨_, (pss_cons (ps_set (i := 1) scLback.nd rfl (Or.inl rfl) (pe_op op_add pe_int (pe_call GNext hr rfl U.mNext U.FNext.kp U.bNext .nil pass0 (pa_cons (pv 0) (pa_cons pe_int pa_nil)))))
      (pss_cons (ps_set (i := 2) scLback.nd rfl (Or.inl rfl) (pe_op op_add pe_int (pe_call GNext hr rfl U.mNext U.FNext.kp U.bNext .nil pass0 (pa_cons (pv 0) (pa_cons pe_int pa_nil)))))
      (pss_cons (ps_set (i := 3) scLback.nd rfl (Or.inl rfl) (pe_make U.M_Desk GDkI hr rfl U.h_Desk U.bDkI .nil pass3 (pa_cons (pv 1) pa_nil)))
      (pss_cons (ps_set (i := 4) scLback.nd rfl (Or.inl rfl) (pe_lst (pa_cons (pe_meth0 (pv 3) U.k_Desk U.mt_Desk_web GDkW hr U.bDkW .nil pass0) pa_nil)))
      (pss_cons (ps_set (i := 5) scLback.nd rfl (Or.inl rfl) (pe_lst pa_nil))
      (pss_cons (ps_for PassesOwn.never rfl (pi_range1 rfl T.range (pa_cons (pv 1) pa_nil)) (pg_name (i := 6) scLback.nd rfl (Or.inl rfl)) 
        (pss_one (ps_for PassesOwn.never rfl (pi_range2 rfl T.range (pa_cons (pe_op op_add (pv 6) pe_int) (pa_cons (pv 1) pa_nil))) (pg_name (i := 7) scLback.nd rfl (Or.inl rfl)) 
          (pss_one (ps_if (pt_cmpR op_lt (pe_call GNext hr rfl U.mNext U.FNext.kp U.bNext .nil pass0 (pa_cons (pv 0) (pa_cons pe_int pa_nil))) (pv 2) (nomark _)) 
            (pss_cons (ps_expr (pe_meth (pv 3) U.k_Desk U.mt_Desk_put GDkP hr U.bDkP .nil pass3 (pa_cons (pv 7) (pa_cons (pv 6) pa_nil))))
            (pss_cons (ps_expr (pe_bm PySem.F.plainAttrs_list PySem.F.slot_list_append PySem.F.type_list_append mt_append (pv 5) (pa_cons (pe_tup (pa_cons (pv 6) (pa_cons (pv 7) pa_nil))) pa_nil)))
            (pss_one (ps_expr (pe_bm PySem.F.plainAttrs_list PySem.F.slot_list_append PySem.F.type_list_append mt_append (pv 4) (pa_cons (pe_meth0 (pv 3) U.k_Desk U.mt_Desk_web GDkW hr U.bDkW .nil pass0) pa_nil)))))) pss_nil)))))
      (pss_cons (ps_if (pt_cmpR (op_neD hr.units) (pe_ix ix_list (pv 4) (pe_un un_neg pe_int) (fun _ _ => rfl)) (pe_tup (pa_cons (pv 1) (pa_cons (pe_callTy call_tuple_of (by rfl) T.tuple (by decide +kernel) (pa_cons (pe_callB cr_sortedP (by rfl) T.sorted (by decide +kernel) (pa_cons (pv 5) pa_nil)) pa_nil)) pa_nil))) (nomark _)) 
        (pss_one (ps_ret pe_bl)) pss_nil)
      (pss_cons (ps_while PassesOwn.never (pt_cmpR op_gt (pe_callB call_len_seq (by rfl) T.len PySem.boot_len (pa_cons (pv 4) pa_nil)) pe_int (nomark _)) 
        (pss_cons (ps_expr (pe_bm0 PySem.F.plainAttrs_list PySem.F.slot_list_pop PySem.F.type_list_pop mt_pop (pv 4)))
        (pss_one (ps_if (PW.pt (pw_or (pt_cmpR op_ne (pe_call GLdone hr rfl U.mLdone U.FLdone.kp U.bLdone .nil pass0 (pa_cons (pv 3) (pa_cons pe_str (pa_cons pe_int (pa_cons pe_int pa_nil))))) pe_str (nomark _)) (pw_or1 (pt_cmpR (op_neD hr.units) (pe_meth0 (pv 3) U.k_Desk U.mt_Desk_web GDkW hr U.bDkW .nil pass0) (pe_ix ix_list (pv 4) (pe_un un_neg pe_int) (fun _ _ => rfl)) (nomark _))))) 
          (pss_one (ps_ret pe_bl)) pss_nil))))
      (pss_one (ps_ret (pe_and (pe_cmpR (op_eqD hr.units) (pv 4) (pe_lst (pa_cons (pe_tup (pa_cons (pv 1) (pa_cons (pe_tup pa_nil) pa_nil))) pa_nil)) (nomark _)) (pe_one (pe_cmpR op_eq (pe_call GLdone hr rfl U.mLdone U.FLdone.kp U.bLdone .nil pass0 (pa_cons (pv 3) (pa_cons pe_str (pa_cons pe_int (pa_cons pe_int pa_nil))))) pe_str (nomark _)))))))))))))), ?_⟩
    have big : 3000 ≤ sizeLine := by decide
    refine ⟨_, rfl, p, 11, rfl, hx, by decide, fun d Ha d0 d1 hxa sba => ⟨_, _, rfl, rfl, ?_⟩⟩
    show gName 1 (V.int (10 + d)) _ _ _
    obtain ⟨n, hn⟩ : ∃ n : Nat, 10 + d = (n : Int) := ⟨(10 + d).toNat, by omega⟩
    rw [hn]
    have hn10 : 10 ≤ n := by omega
    have hn20 : n ≤ 20 := by omega
    clear hn d0 d1
    refine ⟨_, rfl, p, 8, rfl, hxa, by decide, fun e Hb e0 e1 hxb sbb => ⟨_, _, rfl, rfl, ?_⟩⟩
    show gName 2 (V.int (3 + e)) _ _ _
    generalize 3 + e = sh
    have sb0 := sba.trans sbb
    clear sba sbb hxa
    refine ⟨_, rfl, fun a dx ha hdx hne => ?_⟩
    have s00 : Same Hb (upd (upd Hb dx (.own a)) a (.ins U.e_Desk dx [])) := (same_upd hdx).upd (by rw [upd_ne (Ne.symm hne)]; exact ha)
    refine ⟨a, dx, n, rfl, upd_same, by omega, hn20, fun dl H1 kf hdl hd => ⟨rfl, ?_⟩⟩
    have dlN : Hb dl = none := s00.free hdl
    have s01 : Same Hb H1 := fun b o e => kf b o (s00 _ _ e) (ne_of_none e ha)
    clear kf s00 hdl hne hdx
    have pA : p ≠ a := hxb.ne ha
    have pD : p ≠ dl := hxb.ne dlN
    have hx1 := hxb.same s01
    obtain ⟨w0, ys0, i1, _, i2, _⟩ := hd.at_
    refine ⟨_, rfl, a, _, _, rfl, (hd.at_).choose_spec.choose_spec.1, rfl, a, dx, dl, n, [], [], rfl, hd, fun w hw => ⟨by show 1 ≤ sizeLine; decide, fun td htd => ?_⟩⟩
    have c1 : Same H1 (upd H1 td (.lst [w])) := same_upd htd
    have gtd : (upd H1 td (.lst [w])) td = some (.lst [w]) := upd_same
    have ptd : p ≠ td := hx1.ne htd
    have atd : a ≠ td := ne_of_none i1 htd
    have dtd : dl ≠ td := ne_of_none i2 htd
    generalize (upd H1 td (.lst [w])) = H2 at *
    refine ⟨by show 0 ≤ sizeLine; decide, fun tb htb => ?_⟩
    have c2 : Same H2 (upd H2 tb (.lst [])) := same_upd htb
    have gtb : (upd H2 tb (.lst [])) tb = some (.lst []) := upd_same
    have ptb : p ≠ tb := (hx1.same c1).ne htb
    have atb : a ≠ tb := ne_of_none (c1 _ _ i1) htb
    have dtb : dl ≠ tb := ne_of_none (c1 _ _ i2) htb
    have ttb : td ≠ tb := ne_of_none gtd htb
    have tdN : Hb td = none := s01.free htd
    have tbN : Hb tb = none := (s01.trans c1).free htb
    have c12 := c1.trans c2
    have j0 : Jb U.e_Desk Hb (upd H2 tb (.lst [])) p a dx dl td tb n [] [] [[]] := ⟨hx1.same c12, hd.same c12, ⟨[w], c2 _ _ gtd, .cons (hw.same (SameT.of c12)) .nil⟩, .nil, (s01.trans c12).but⟩
    generalize (upd H2 tb (.lst [])) = H3 at *
    clear c1 c2 c12 gtd htd htb i1 i2 hw hd hx1 s01
    have wr : ∀ {HA HB : Hp} {ps ds : List Pr} {wt : List (List Pr)}, Jb U.e_Desk Hb HA p a dx dl td tb n ps ds wt → SameBut p HA HB → XsAt HB p → Jb U.e_Desk Hb HB p a dx dl td tb n ps ds wt := fun {HA HB ps ds wt} j sb hx => by
      have m := j.hxs.tup sb
      obtain ⟨w, ys, h1, hw, h2, hp⟩ := j.hdk.at_
      obtain ⟨yt, et, ht⟩ := j.htd
      exact ⟨hx, ⟨⟨w, ys, sb _ _ h1 pA.symm, hw.mono m, sb _ _ h2 pD.symm, PairsAt.mono m hp⟩, j.hdk.good, j.hdk.le, j.hdk.ge, j.hdk.few, j.hdk.ne⟩, ⟨yt, sb _ _ et ptd.symm, L2.Paired.mapP ht fun v u h => h.mono m⟩, j.hbk, j.hsb.trans sb⟩
    refine ⟨_, rfl, _, rfl, by omega, by omega, for_range (lo := 0) (n := ((n : Nat) : Int).toNat)
      (fun i σ H2 => ∃ (ps ds : List Pr) (wt : List (List Pr)) (yb : List V) (va vb : Option V), σ = [some (.ref p), some (.int n), some (.int sh), some (.ref a), some (.ref td), some (.ref tb), va, vb] ∧ Jb U.e_Desk Hb H2 p a dx dl td tb n ps ds wt ∧ H2 tb = some (.lst yb) ∧ PairsAt H2 yb ds ∧ Upto n i (i + 1) ds)
      ⟨[], [], [[]], [], none, none, rfl, j0, gtb, .nil, Upto.nil⟩ ?_ ?_⟩
    · rintro i σ H4 hi2 ⟨ps, ds, wt, yb, va, vb, rfl, j4, htb4, hpb4, hup⟩
      rw [Int.toNat_natCast] at hi2
      refine ⟨_, rfl, _, _, rfl, rfl, _, rfl, _, _, rfl, by refine ⟨?_, ?_, ?_, ?_⟩ <;> omega, for_range (lo := (0 + (i : Int)) + 1) (n := ((n : Int) - ((0 + (i : Int)) + 1)).toNat)
        (fun j σ H3 => ∃ (ps ds : List Pr) (wt : List (List Pr)) (yb : List V) (vb : Option V), σ = [some (.ref p), some (.int n), some (.int sh), some (.ref a), some (.ref td), some (.ref tb), some (.int (0 + (i : Int))), vb] ∧ Jb U.e_Desk Hb H3 p a dx dl td tb n ps ds wt ∧ H3 tb = some (.lst yb) ∧ PairsAt H3 yb ds ∧ Upto n i (i + 1 + j) ds)
        ⟨ps, ds, wt, yb, vb, rfl, j4, htb4, hpb4, by simpa using hup⟩ ?_ ?_⟩
      · rintro j σ H5 hj ⟨ps, ds, wt, yb, vb, rfl, j5, htb5, hpb5, hup⟩
        have eI : (0 + (i : Int)) + 1 + (j : Int) = (i : Int) + 1 + j := by omega
        refine ⟨_, rfl, p, 10, rfl, j5.hxs, by decide, fun g H6 g0 g1 hx6 sb6 => ⟨_, rfl, _, _, rfl, rfl, _, rfl, ?_⟩⟩
        have j6 := wr j5 sb6 hx6
        have htb6 := sb6 _ _ htb5 ptb.symm
        have hpb6 := PairsAt.mono (j5.hxs.tup sb6) hpb5
        refine ite2 (fun _ => ?_) (fun _ => ?_)
        rotate_left
        · refine ⟨ps, ds, wt, yb, _, rfl, j6, htb6, hpb6, ?_⟩
          have := hup.skip
          have e : (i : Int) + 1 + j + 1 = (i : Int) + 1 + ((j + 1 : Nat) : Int) := by omega
          rw [e] at this
          exact this
        have hfew := j6.hbk.few hn20
        have ept : pr (0 + (i : Int) + 1 + (j : Int)) (0 + (i : Int)) = ((i : Int), (i : Int) + 1 + j) := by
          rw [pr_gt (by omega), eI, Int.zero_add]
        have tno : ((i : Int), (i : Int) + 1 + (j : Int)) ∉ ps := fun z => by
          have := hup.lt _ ((j6.hbk.mem _).mpr z)
          rcases this with c | ⟨_, c⟩ <;> exact absurd c (Int.lt_irrefl _)
        refine ⟨_, rfl, a, _, _, rfl, (j6.hdk.at_).choose_spec.choose_spec.1, rfl, _, rfl, _, rfl, a, dx, dl, n, ps, ds, _, _, rfl, j6.hdk, by omega, by omega, by omega, by omega, fun c => absurd (by rw [ept] at c; exact c) tno, fun _ qs H7 k7 d7 hQ => ?_⟩
        rw [ept] at hQ d7
        have m7 := j6.hdk.tup k7
        obtain ⟨yt, et, ht⟩ := j6.htd
        have et7 := k7 _ _ et atd.symm dtd.symm
        have ht7 : WsAt H7 n yt wt := L2.Paired.mapP ht fun v u h => h.mono m7
        have htb7 := k7 _ _ htb6 atb.symm dtb.symm
        have hpb7 := PairsAt.mono m7 hpb6
        have hx7 : XsAt H7 p := let ⟨z, e, l⟩ := hx6; ⟨z, k7 _ _ e pA pD, l⟩
        have sb7 : SameBut p Hb H7 := fun b o h nb => k7 b o (j6.hsb b o h nb) (ne_of_none h ha) (ne_of_none h dlN)
        have bk7 : Bk n (wt ++ [qs]) qs (ds ++ [((i : Int), (i : Int) + 1 + j)]) := .put j6.hbk tno hQ d7.good
        have hbl := Paired.length hpb7
        refine ⟨_, rfl, .inl ⟨rfl, _, SqL.of htb7⟩, _, rfl, _, rfl, two_le, fun r hr => ?_⟩
        have c8 : Same H7 (upd H7 r (.tup [.int (0 + (i : Int)), .int (0 + (i : Int) + 1 + (j : Int))])) := same_upd hr
        have gr : (upd H7 r (.tup [.int (0 + (i : Int)), .int (0 + (i : Int) + 1 + (j : Int))])) r = some (.tup [.int (i : Int), .int ((i : Int) + 1 + j)]) := by rw [upd_same, eI, Int.zero_add]
        generalize (upd H7 r (.tup [.int (0 + (i : Int)), .int (0 + (i : Int) + 1 + (j : Int))])) = H8 at *
        have htb8 := c8 _ _ htb7
        refine ⟨tb, yb, .ref r, rfl, rfl, htb8, by omega, ?_⟩
        have m9 : SameT H8 (upd H8 tb (.lst (yb ++ [.ref r]))) := SameT.lst htb8
        have hx9 : XsAt (upd H8 tb (.lst (yb ++ [.ref r]))) p := (hx7.same c8).upd ptb
        have d9 : DeskAt U.e_Desk (upd H8 tb (.lst (yb ++ [.ref r]))) a dx dl n qs (ds ++ [((i : Int), (i : Int) + 1 + j)]) := (d7.same c8).updL atb.symm dtb.symm m9
        have et9 : (upd H8 tb (.lst (yb ++ [.ref r]))) td = some (.lst yt) := by rw [upd_ne ttb]; exact c8 _ _ et7
        have ht9 : WsAt (upd H8 tb (.lst (yb ++ [.ref r]))) n yt wt := L2.Paired.mapP ht7 fun v u h => h.mono ((SameT.of c8).trans m9)
        have htb9 : (upd H8 tb (.lst (yb ++ [.ref r]))) tb = some (.lst (yb ++ [.ref r])) := upd_same
        have hpb9 : PairsAt (upd H8 tb (.lst (yb ++ [.ref r]))) (yb ++ [.ref r]) (ds ++ [((i : Int), (i : Int) + 1 + j)]) := Paired.snoc (PairsAt.mono ((SameT.of c8).trans m9) hpb7) ⟨r, rfl, m9 _ _ gr⟩
        have sb9 : SameBut p Hb (upd H8 tb (.lst (yb ++ [.ref r]))) := (sb7.trans c8.but).freshN tbN
        generalize (upd H8 tb (.lst (yb ++ [.ref r]))) = H9 at *
        have ytl := Paired.length ht9
        have wtl := j6.hbk.len
        refine ⟨_, rfl, .inl ⟨rfl, _, SqL.of et9⟩, _, rfl, a, _, _, rfl, (d9.at_).choose_spec.choose_spec.1, rfl, a, dx, dl, n, qs, _, rfl, d9, fun w hw => ⟨td, yt, w, rfl, rfl, et9, by omega, ?_⟩⟩
        have mA : SameT H9 (upd H9 td (.lst (yt ++ [w]))) := SameT.lst et9
        refine ⟨qs, ds ++ [((i : Int), (i : Int) + 1 + j)], wt ++ [qs], yb ++ [.ref r], _, rfl, ⟨hx9.upd ptd, d9.updL atd.symm dtd.symm mA, ⟨_, upd_same, Paired.snoc (L2.Paired.mapP ht9 fun v u h => h.mono mA) (hw.mono mA)⟩, bk7, sb9.freshN tdN⟩, by rw [upd_ne ttb.symm]; exact htb9, PairsAt.mono mA hpb9, ?_⟩
        have := hup.put (by omega) (by omega) (by omega)
        have e : (i : Int) + 1 + j + 1 = (i : Int) + 1 + ((j + 1 : Nat) : Int) := by omega
        rw [e] at this
        exact this
      · rintro σ H5 ⟨ps, ds, wt, yb, vb, rfl, j5, htb5, hpb5, hup⟩
        exact ⟨ps, ds, wt, yb, _, _, rfl, j5, htb5, hpb5, hup.row _⟩
    rintro σ H4 ⟨ps, ds, wt, yb, va, vb, rfl, j4, htb4, hpb4, hup⟩
    have eds : ds = ps := good_eq hup.good j4.hdk.good j4.hbk.mem
    obtain ⟨yt, et, ht⟩ := id j4.htd
    obtain ⟨w1, ew⟩ := j4.hbk.last
    subst ew
    obtain ⟨m1, v1, ey1, hv1⟩ := paired_last46 w1 ht
    refine ⟨_, rfl, _, rfl, td, _, _, _, rfl, rfl, SqL.of et, atI_last46 ey1, _, rfl, _, rfl, tb, yb, rfl, SqL.of htb4, (gP_of hpb4).2, fun vs r9 hperm hsort hr9 => ?_⟩
    obtain ⟨hz, hzp⟩ := sorted_prs hpb4 hperm
    refine ⟨r9, vs, rfl, .inl ⟨SqL.of upd_same, fun c9 hc9 => ⟨two_le, fun d9 hd9 => ?_⟩⟩⟩
    have s9 : Same H4 (upd (upd (upd H4 r9 (.lst vs)) c9 (.tup vs)) d9 (.tup [.int n, .ref c9])) := ((same_upd hr9).upd hc9).upd hd9
    have hw9 : WebAt (upd (upd (upd H4 r9 (.lst vs)) c9 (.tup vs)) d9 (.tup [.int n, .ref c9])) (.ref d9) n (vs.map (gP H4)) := ⟨d9, c9, vs, rfl, upd_same, by rw [upd_ne (ne_of_none upd_same hd9), upd_same], PairsAt.mono (SameT.of s9) hz⟩
    have mem : ∀ q, q ∈ vs.map (gP H4) ↔ q ∈ ps := fun q => hzp.mem_iff.trans (j4.hbk.mem q)
    have eqs : vs.map (gP H4) = ps := good_eq (n := (n : Int)) ⟨lt2_of_le2 hsort (hzp.nodup_iff.mpr j4.hbk.nd), fun q hq => j4.hdk.good.lo q ((mem q).mp hq)⟩ j4.hdk.good mem
    rw [eqs] at hw9
    have hv9 := hv1.same (SameT.of s9)
    have j9 := wr j4 s9.but (j4.hxs.same s9)
    generalize (upd (upd (upd H4 r9 (.lst vs)) c9 (.tup vs)) d9 (.tup [.int n, .ref c9])) = H9 at *
    refine neD_sameA (dp_webV hv9) (dp_webV hw9) (shp_web46 hn20 j4.hdk.good) ⟨_, rfl, iteF ?_⟩
    clear hz hzp hperm hsort hr9 hc9 hd9 mem eqs s9 hv1 ey1 ht et j4 htb4 hpb4 hup eds hw9 hv9
    refine ⟨fun m σ H5 => ∃ (ps ds : List Pr) (wt : List (List Pr)) (o6 o7 : Option V), σ = [some (.ref p), some (.int n), some (.int sh), some (.ref a), some (.ref td), some (.ref tb), o6, o7] ∧ Jb U.e_Desk Hb H5 p a dx dl td tb n ps ds wt ∧ m = ds.length, ⟨ds.length, ps, ds, _, _, _, rfl, j9, rfl⟩, ?_⟩
    rintro m σ H5 ⟨ps, ds, wt, o6, o7, rfl, j5, rfl⟩
    obtain ⟨yt, et, ht⟩ := id j5.htd
    have ytl := Paired.length ht
    have wtl := j5.hbk.len
    refine ⟨_, rfl, td, _, rfl, .inl (SqL.of et), _, _, rfl, rfl, _, rfl, ?_⟩
    refine ite2 (fun c => ?_) (fun c => ?_)
    · have c : (1 : Int) < (yt.length : Int) := of_decide_eq_true c
      refine ⟨fun σ' H' => ∃ m', m' < ds.length ∧ ∃ (ps ds : List Pr) (wt : List (List Pr)) (o6 o7 : Option V), σ' = [some (.ref p), some (.int n), some (.int sh), some (.ref a), some (.ref td), some (.ref tb), o6, o7] ∧ Jb U.e_Desk Hb H' p a dx dl td tb n ps ds wt ∧ m' = ds.length, fun σ' H' h' => h', ?_⟩
      rcases List.eq_nil_or_concat ds with e | ⟨es, t, e⟩
      · subst e
        simp at wtl
        omega
      have e : ds = es ++ [t] := by rw [e, List.concat_eq_append]
      subst e
      have hfew := j5.hbk.few hn20
      have hIR := j5.hbk.inR
      obtain ⟨w1, ps1, ew, bk1, tno, hQ⟩ := j5.hbk.inv rfl
      subst ew
      obtain ⟨m1, v1, ey1, hv1⟩ := paired_last46 w1 ht
      subst ey1
      have hfront : WsAt H5 n m1 w1 := paired_front46 ht
      refine ⟨_, rfl, .inl ⟨rfl, _, SqL.of et⟩, td, _, v1, rfl, rfl, et, by simp, ?_⟩
      rw [List.dropLast_concat]
      have mA : SameT H5 (upd H5 td (.lst m1)) := SameT.lst et
      have hx6 : XsAt (upd H5 td (.lst m1)) p := j5.hxs.upd ptd
      have d6 : DeskAt U.e_Desk (upd H5 td (.lst m1)) a dx dl n ps (es ++ [t]) := j5.hdk.updL atd.symm dtd.symm mA
      have et6 : (upd H5 td (.lst m1)) td = some (.lst m1) := upd_same
      have ht6 : WsAt (upd H5 td (.lst m1)) n m1 w1 := L2.Paired.mapP hfront fun v u h => h.mono mA
      have sb6 : SameBut p Hb (upd H5 td (.lst m1)) := j5.hsb.freshN tdN
      generalize (upd H5 td (.lst m1)) = H6 at *
      refine ⟨_, rfl, a, dx, dl, n, ps, es ++ [t], "back", 0, 0, rfl, d6, by omega, hIR, .inl rfl, fun ans qs es2 H7 hD k7 d7 => ?_⟩
      obtain ⟨ea, hes, hS⟩ : ans = "done" ∧ es2 = es ∧ SubQ ps t qs := by
        generalize hw : Str.ofString "back" = wd at hD
        generalize hdd : es ++ [t] = dd at hD
        cases hD with
        | putN c => exact absurd hw (by decide)
        | putY c _ => exact absurd hw (by decide)
        | takeN c => exact absurd hw (by decide)
        | takeY c _ => exact absurd hw (by decide)
        | backN c => rw [c] at hdd; simp at hdd
        | backY e h1 h2 =>
          rw [e] at hdd
          obtain ⟨e1, e2⟩ := List.append_inj' hdd rfl
          injection e2 with e2
          subst e1 e2
          exact ⟨rfl, rfl, h1 ((hQ _).mpr (.inr rfl))⟩
      subst ea hes
      have eqp : qs = ps1 := good_eq d7.good bk1.good fun q => by
        rw [hS q, hQ q]
        constructor
        · rintro ⟨h | h, n⟩
          · exact h
          · exact absurd h n
        · intro h
          exact ⟨.inl h, fun z => tno (z ▸ h)⟩
      subst eqp
      have m7 := d6.tup k7
      have et7 := k7 _ _ et6 atd.symm dtd.symm
      have ht7 : WsAt H7 n m1 w1 := L2.Paired.mapP ht6 fun v u h => h.mono m7
      have hx7 : XsAt H7 p := let ⟨z, e, l⟩ := hx6; ⟨z, k7 _ _ e pA pD, l⟩
      have sb7 : SameBut p Hb H7 := fun b o h nb => k7 b o (sb6 b o h nb) (ne_of_none h ha) (ne_of_none h dlN)
      obtain ⟨w2, ew2⟩ := bk1.last
      subst ew2
      obtain ⟨m2, v2, ey2, hv2⟩ := paired_last46 w2 ht7
      refine ⟨rfl, _, rfl, ?_⟩
      refine iteB (c := false) (by simp) (iteF ?_)
      refine ⟨_, rfl, a, _, _, rfl, (d7.at_).choose_spec.choose_spec.1, rfl, a, dx, dl, n, qs, es2, rfl, d7, fun w hw => ⟨_, rfl, _, rfl, td, _, _, _, rfl, rfl, SqL.of et7, atI_last46 ey2, neD_sameA (dp_webV hw) (dp_webV hv2) (shp_web46 hn20 d7.good) ⟨_, rfl, iteF ?_⟩⟩⟩
      exact ⟨_, by rw [List.length_append]; simp, qs, es2, _, _, _, rfl, ⟨hx7, d7, ⟨m1, et7, ht7⟩, bk1, sb7⟩, rfl⟩
    · have c : ¬ (1 : Int) < (yt.length : Int) := of_decide_eq_false (Bool.eq_false_iff.mpr c)
      have e0 : ds = [] := List.length_eq_zero_iff.mp (by omega)
      subst e0
      have ep : ps = [] := List.eq_nil_iff_forall_not_mem.mpr fun q hq => by have := (j5.hbk.mem q).mpr hq; cases this
      subst ep
      obtain ⟨w1, ew⟩ := j5.hbk.last
      subst ew
      have e1 : w1 = [] := by
        rw [List.length_append] at wtl
        simpa using wtl
      subst e1
      have hx5 := j5.hxs
      have d5 := j5.hdk
      have sb5 := j5.hsb
      refine ⟨_, rfl, _, rfl, by show 0 ≤ sizeLine; decide, fun e he => ⟨two_le, fun dd hdd => ⟨by show 1 ≤ sizeLine; decide, fun L hL => ?_⟩⟩⟩
      have c6 : Same H5 (upd (upd (upd H5 e (.tup [])) dd (.tup [.int n, .ref e])) L (.lst [.ref dd])) := ((same_upd he).upd hdd).upd hL
      have hwd : WebAt (upd (upd (upd H5 e (.tup [])) dd (.tup [.int n, .ref e])) L (.lst [.ref dd])) (.ref dd) n [] := by
        have h1 : (upd (upd H5 e (.tup [])) dd (.tup [.int n, .ref e])) e = some (.tup []) := by rw [upd_ne (ne_of_none upd_same hdd), upd_same]
        exact ⟨dd, e, [], rfl, by rw [upd_ne (ne_of_none upd_same hL), upd_same], by rw [upd_ne (ne_of_none h1 hL)]; exact h1, .nil⟩
      have gL : (upd (upd (upd H5 e (.tup [])) dd (.tup [.int n, .ref e])) L (.lst [.ref dd])) L = some (.lst [.ref dd]) := upd_same
      generalize (upd (upd (upd H5 e (.tup [])) dd (.tup [.int n, .ref e])) L (.lst [.ref dd])) = H6 at *
      refine eqD_sameA (d := .list ([[]].map (dWeb n))) (.lst (SqL.of (c6 _ _ et)) (dp_webs (L2.Paired.mapP ht fun v u h => h.same (SameT.of c6)))) (.lst (SqL.of gL) (.cons (dp_webV hwd) .nil)) (shp_webs hn20 fun q hq => by rw [List.mem_singleton.mp hq]; exact ⟨.nil, fun p h => by cases h⟩) ⟨true, rfl, iteT ?_⟩
      refine ⟨_, rfl, a, dx, dl, n, [], [], "back", 0, 0, rfl, d5.same c6, by show 0 < 2000; decide, (fun t h => by cases h), .inl rfl, fun ans qs es2 H7 hD k7 d7 => ?_⟩
      have ea : ans = "back" := by
        generalize hw : Str.ofString "back" = wd at hD
        cases hD with
        | putN c => exact absurd hw (by decide)
        | putY c _ => exact absurd hw (by decide)
        | takeN c => exact absurd hw (by decide)
        | takeY c _ => exact absurd hw (by decide)
        | backN c => rfl
        | backY e h1 h2 => simp at e
      subst ea
      refine ⟨rfl, ?_⟩
      show Q (.bl (decide (V.str "back" = V.str "back"))) _
      rw [decide_eq_true rfl]
      exact q H7 (sb0.trans fun b o h nb => k7 b o (c6 _ _ (sb5 b o h nb)) (ne_of_none h ha) (ne_of_none h dlN)) (let ⟨z, e, l⟩ := hx5.same c6; ⟨z, k7 _ _ e pA pD, l⟩)
end
end Wb

end
section
set_option Elab.async false
set_option linter.all false
set_option maxRecDepth 100000
namespace Wb
open PySem L2
section
variable {P : Program} {w : World} {K : PySem.W.Frag} {mg : Str → Option Value} {base : Heap}
/-! ### the law -/
theorem same_new46 {H H1 H2 : Hp} {p : Addr} (hp : H p = none) (s : Same H H1) (sb : SameBut p H1 H2) : Same H H2 := fun b o e => sb b o (s b o e) (fun z => by subst z; rw [hp] at e; cases e)
def spLaw (K : PySem.W.Frag) : Sp := fun vs H Q _ => ∃ (a : Addr) (ns : List Int), vs = [.ref a] ∧ SqL K H a (ns.map V.int) ∧ ns.length ≤ 63 ∧ ∀ H', Q (.bl true) H'
abbrev nmLaw : List Str := ["_law_script", "_law_k", "_law_xs", "_law_many"]
theorem scLaw : FnScope nmLaw ["_law_script"] (defScope sLaw) := ⟨rfl, rfl, rfl, by decide +kernel, rfl, by decide +kernel, by decide +kernel⟩
set_option maxHeartbeats 4000000 in
theorem ok_Law (U : Fs K mg) (T : Bl mg) : FnOk P w K mg base CX0 9 U.aLaw U.dLaw ["_law_script"] (spLaw K) := by
  have GLback : FnOk P w K mg base CX0 8 U.aLback U.dLback ["_law_xs"] (spLback K) := (ok_Lback U T).mono (by decide)
  have GStream : FnOk P w K mg base CX0 8 U.aStream U.dStream ["_law_cell", "_law_many"] spStream := (ok_Stream U T).mono (by decide)
  have GCellAt : FnOk P w K mg base CX0 8 U.aCellAt U.dCellAt ["_law_script", "_law_k"] (spCellAt K) := (ok_CellAt U T).mono (by decide)
  have GNext : FnOk P w K mg base CX0 8 U.aNext U.dNext ["_law_xs", "_law_many"] spNextX := (ok_Next U T).mono (by decide)
  have GLgoes : FnOk P w K mg base CX0 8 U.aLgoes U.dLgoes ["_law_xs", "_law_many"] (spLgoes K) := (ok_Lgoes U T).mono (by decide)
  refine U.FLaw.ok scLaw (fun vs H Q E h => ?_) (fun cdv A outer s H vs Q E hr h => ?_)
  · obtain ⟨a, ns, rfl, _⟩ := h
    rfl
  · obtain ⟨a, ns, rfl, hS, hlen, k⟩ := h
    refine ⟨_, (pss_cons (ps_if (pt_not (pt_val (pe_call GLback hr rfl U.mLback U.FLback.kp U.bLback .nil pass0 (pa_cons (pe_call GStream hr rfl U.mStream U.FStream.kp U.bStream .nil pass0 (pa_cons (pe_call GCellAt hr rfl U.mCellAt U.FCellAt.kp U.bCellAt .nil pass0 (pa_cons (pv 0) (pa_cons pe_int pa_nil))) (pa_cons pe_int pa_nil))) pa_nil)))) 
        (pss_one (ps_ret pe_bl)) pss_nil)
      (pss_cons (ps_for PassesOwn.never rfl (pi_range1 rfl T.range (pa_cons pe_int pa_nil)) (pg_name (i := 1) scLaw.nd rfl (Or.inl rfl)) 
        (pss_cons (ps_set (i := 2) scLaw.nd rfl (Or.inl rfl) (pe_call GStream hr rfl U.mStream U.FStream.kp U.bStream .nil pass0 (pa_cons (pe_op op_add (pe_call GCellAt hr rfl U.mCellAt U.FCellAt.kp U.bCellAt .nil pass0 (pa_cons (pv 0) (pa_cons (pv 1) pa_nil))) (pv 1)) (pa_cons pe_int pa_nil))))
        (pss_cons (ps_set (i := 3) scLaw.nd rfl (Or.inl rfl) (pe_op op_add pe_int (pe_call GNext hr rfl U.mNext U.FNext.kp U.bNext .nil pass0 (pa_cons (pv 2) (pa_cons pe_int pa_nil)))))
        (pss_cons (ps_if (pt_cmpR op_eq (pe_call GNext hr rfl U.mNext U.FNext.kp U.bNext .nil pass0 (pa_cons (pv 2) (pa_cons pe_int pa_nil))) pe_int (nomark _)) 
          (pss_one (ps_set (i := 3) scLaw.nd rfl (Or.inl rfl) (pe_op op_add pe_int (pe_call GNext hr rfl U.mNext U.FNext.kp U.bNext .nil pass0 (pa_cons (pv 2) (pa_cons pe_int pa_nil)))))) pss_nil)
        (pss_one (ps_if (pt_not (pt_val (pe_call GLgoes hr rfl U.mLgoes U.FLgoes.kp U.bLgoes .nil pass0 (pa_cons (pv 2) (pa_cons (pv 3) pa_nil))))) 
          (pss_one (ps_ret pe_bl)) pss_nil))))))
      (pss_one (ps_ret pe_bl)))), ?_⟩
    have big : 3000 ≤ sizeLine := by decide
    refine ⟨_, rfl, a, ns, 3, rfl, hS, by decide, fun z => ⟨_, 200, rfl, by decide, fun p H1 hpN s1 hx1 => ?_⟩⟩
    refine ⟨p, rfl, hx1, fun H2 sb2 hx2 => ⟨_, rfl, iteF ?_⟩⟩
    have hS2 := (same_new46 hpN s1 sb2).seq hS
    clear hpN s1 sb2 hx1 hx2
    refine ⟨_, rfl, by decide, by decide, for_range (lo := 0) (n := (3 : Int).toNat) (fun i σ H2 => (∃ o1 o2 o3 : Option V, σ = [some (.ref a), o1, o2, o3]) ∧ SqL K H2 a (ns.map V.int))
      ⟨⟨_, _, _, rfl⟩, hS2⟩ ?_ ?_⟩
    rotate_left
    · rintro σ H2 ⟨⟨o1, o2, o3, rfl⟩, _⟩
      exact k H2
    rintro i σ H2 hi ⟨⟨o1, o2, o3, rfl⟩, hS2⟩
    refine ⟨_, rfl, _, rfl, a, ns, 0 + (i : Int), rfl, hS2, by omega, fun z => ⟨_, rfl, _, _, rfl, rfl, _, 160, rfl, by decide, fun p H3 hpN s3 hx3 => ?_⟩⟩
    refine ⟨_, rfl, p, 4, rfl, hx3, by decide, fun d H4 d0 d1 hx4 sb4 => ⟨_, _, rfl, rfl, ?_⟩⟩
    show gName 3 (V.int (3 + d)) _ _ _
    obtain ⟨n, hn, hn3, hn20⟩ : ∃ n : Nat, 3 + d = (n : Int) ∧ 3 ≤ n ∧ n ≤ 20 := ⟨(3 + d).toNat, by omega, by omega, by omega⟩
    rw [hn]
    have s4 := same_new46 hpN s3 sb4
    clear hn d0 d1 sb4 s3 hx3
    dsimp only
    refine seq_midA (fun σ H5 => ∃ n : Nat, σ = [some (.ref a), some (.int (0 + (i : Int))), some (.ref p), some (.int n)] ∧ 3 ≤ n ∧ n ≤ 20 ∧ Same H2 H5 ∧ XsAt H5 p) (fun N hN => ?_) ?_
    · refine ⟨_, rfl, p, 5, rfl, hx4, by decide, fun d H5 d0 d1 hx5 sb5 => ⟨rfl, _, rfl, ?_⟩⟩
      have s5 := same_new46 hpN s4 sb5
      refine ite2 (fun _ => ?_) (fun _ => hN _ _ ⟨n, rfl, hn3, hn20, s5, hx5⟩)
      refine ⟨_, rfl, p, 14, rfl, hx5, by decide, fun d H6 d0 d1 hx6 sb6 => ⟨_, _, rfl, rfl, ?_⟩⟩
      show N [some (.ref a), some (.int (0 + (i : Int))), some (.ref p), some (V.int (7 + d))] _
      obtain ⟨n, hn, hn3, hn20⟩ : ∃ n : Nat, 7 + d = (n : Int) ∧ 3 ≤ n ∧ n ≤ 20 := ⟨(7 + d).toNat, by omega, by omega, by omega⟩
      rw [hn]
      exact hN _ _ ⟨n, rfl, hn3, hn20, same_new46 hpN s5 sb6, hx6⟩
    rintro σ H5 ⟨n, rfl, hn3, hn20, s5, hx5⟩
    refine ⟨_, rfl, _, rfl, p, n, rfl, hx5, hn3, hn20, fun H6 sb6 hx6 => ⟨_, rfl, iteF ?_⟩⟩
    exact ⟨⟨_, _, _, rfl⟩, (same_new46 hpN s5 sb6).seq hS2⟩
end
end Wb

end
set_option Elab.async false
set_option linter.all false
set_option maxRecDepth 100000
namespace Wb
open PySem L2
set_option maxHeartbeats 4000000 in
theorem all_mk {l : PySem.W.OpenLaw} {w : World} {K : PySem.W.Frag} {h : Heap} {mg : Str → Option Value} {fa : Addr} (X : K.In h) (G : h.Ns mainGlobals mg) (hfa : mg "law" = some (.ref fa))
    {od0 an0 : Option Addr} {sl0 : Array (Option Value)} {oc0 kV0 dc0 pm0 cd0 ct0 : Value} {f0 : Addr}
    {od1 an1 : Option Addr} {sl1 : Array (Option Value)} {oc1 kV1 dc1 pm1 cd1 ct1 : Value} {f1 : Addr}
    {od2 an2 : Option Addr} {sl2 : Array (Option Value)} {oc2 kV2 dc2 pm2 cd2 ct2 : Value} {f2 : Addr}
    {od3 an3 : Option Addr} {sl3 : Array (Option Value)} {oc3 kV3 dc3 pm3 cd3 ct3 : Value} {f3 : Addr}
    {od4 an4 : Option Addr} {sl4 : Array (Option Value)} {oc4 kV4 dc4 pm4 cd4 ct4 : Value} {f4 : Addr}
    {od5 an5 : Option Addr} {sl5 : Array (Option Value)} {oc5 kV5 dc5 pm5 cd5 ct5 : Value} {f5 : Addr}
    {od6 an6 : Option Addr} {sl6 : Array (Option Value)} {oc6 kV6 dc6 pm6 cd6 ct6 : Value} {f6 : Addr}
    {od7 an7 : Option Addr} {sl7 : Array (Option Value)} {oc7 kV7 dc7 pm7 cd7 ct7 : Value} {f7 : Addr}
    {od8 an8 : Option Addr} {sl8 : Array (Option Value)} {oc8 kV8 dc8 pm8 cd8 ct8 : Value} {f8 : Addr}
    {od9 an9 : Option Addr} {sl9 : Array (Option Value)} {oc9 kV9 dc9 pm9 cd9 ct9 : Value} {f9 : Addr}
    {od10 an10 : Option Addr} {sl10 : Array (Option Value)} {oc10 kV10 dc10 pm10 cd10 ct10 : Value} {f10 : Addr}
    {od11 an11 : Option Addr} {sl11 : Array (Option Value)} {oc11 kV11 dc11 pm11 cd11 ct11 : Value} {f11 : Addr}
    {od12 an12 : Option Addr} {sl12 : Array (Option Value)} {oc12 kV12 dc12 pm12 cd12 ct12 : Value} {f12 : Addr}
    {od13 an13 : Option Addr} {sl13 : Array (Option Value)} {oc13 kV13 dc13 pm13 cd13 ct13 : Value} {f13 : Addr}
    {od14 an14 : Option Addr} {sl14 : Array (Option Value)} {oc14 kV14 dc14 pm14 cd14 ct14 : Value} {f14 : Addr}
    {od15 an15 : Option Addr} {sl15 : Array (Option Value)} {oc15 kV15 dc15 pm15 cd15 ct15 : Value} {f15 : Addr}
    {od16 an16 : Option Addr} {sl16 : Array (Option Value)} {oc16 kV16 dc16 pm16 cd16 ct16 : Value} {f16 : Addr}
    {od17 an17 : Option Addr} {sl17 : Array (Option Value)} {oc17 kV17 dc17 pm17 cd17 ct17 : Value} {f17 : Addr}
    {od18 an18 : Option Addr} {sl18 : Array (Option Value)} {oc18 kV18 dc18 pm18 cd18 ct18 : Value} {f18 : Addr}
    {od19 an19 : Option Addr} {sl19 : Array (Option Value)} {oc19 kV19 dc19 pm19 cd19 ct19 : Value} {f19 : Addr}
    {od20 an20 : Option Addr} {sl20 : Array (Option Value)} {oc20 kV20 dc20 pm20 cd20 ct20 : Value} {f20 : Addr}
    {od21 an21 : Option Addr} {sl21 : Array (Option Value)} {oc21 kV21 dc21 pm21 cd21 ct21 : Value} {f21 : Addr}
    {od22 an22 : Option Addr} {sl22 : Array (Option Value)} {oc22 kV22 dc22 pm22 cd22 ct22 : Value} {f22 : Addr}
    {od23 an23 : Option Addr} {sl23 : Array (Option Value)} {oc23 kV23 dc23 pm23 cd23 ct23 : Value} {f23 : Addr}
    {od24 an24 : Option Addr} {sl24 : Array (Option Value)} {oc24 kV24 dc24 pm24 cd24 ct24 : Value} {f24 : Addr}
    {qt_FEWEST_PLACES qt_MOST_PLACES : Tok}
    {cNoWeb cNoTie cNothingBack cRingsError cNoHeld cNoNumber cNoPut cNoRing cNoRow cNoText cNoWay cNotRich cTooFew cTooGreat cDesk : Addr}
    (a0 : PySem.W.nsIn K mainGlobals "is_int" = some (some (.ref f0))) (l0 : K.lookup f0 = some ⟨oc0, od0, .func (PySem.W.fnOf "is_int" "is_int" (defArgs sIsInt) (defBody sIsInt) (defScope sIsInt) .none kV0 dc0 pm0 an0 cd0 ct0), sl0⟩) (c0 : PySem.W.codeIn K cd0 "is_int" = true) (k0 : PySem.W.keepIn K (.ref f0) = true)
    (a1 : PySem.W.nsIn K mainGlobals "is_list_or_tuple" = some (some (.ref f1))) (l1 : K.lookup f1 = some ⟨oc1, od1, .func (PySem.W.fnOf "is_list_or_tuple" "is_list_or_tuple" (defArgs sIsLT) (defBody sIsLT) (defScope sIsLT) .none kV1 dc1 pm1 an1 cd1 ct1), sl1⟩) (c1 : PySem.W.codeIn K cd1 "is_list_or_tuple" = true) (k1 : PySem.W.keepIn K (.ref f1) = true)
    (a2 : PySem.W.nsIn K mainGlobals "is_many" = some (some (.ref f2))) (l2 : K.lookup f2 = some ⟨oc2, od2, .func (PySem.W.fnOf "is_many" "is_many" (defArgs sIsMany) (defBody sIsMany) (defScope sIsMany) .none kV2 dc2 pm2 an2 cd2 ct2), sl2⟩) (c2 : PySem.W.codeIn K cd2 "is_many" = true) (k2 : PySem.W.keepIn K (.ref f2) = true)
    (a3 : PySem.W.nsIn K mainGlobals "is_place" = some (some (.ref f3))) (l3 : K.lookup f3 = some ⟨oc3, od3, .func (PySem.W.fnOf "is_place" "is_place" (defArgs sIsPl) (defBody sIsPl) (defScope sIsPl) .none kV3 dc3 pm3 an3 cd3 ct3), sl3⟩) (c3 : PySem.W.codeIn K cd3 "is_place" = true) (k3 : PySem.W.keepIn K (.ref f3) = true)
    (a4 : PySem.W.nsIn K mainGlobals "are_two_places" = some (some (.ref f4))) (l4 : K.lookup f4 = some ⟨oc4, od4, .func (PySem.W.fnOf "are_two_places" "are_two_places" (defArgs sTwo) (defBody sTwo) (defScope sTwo) .none kV4 dc4 pm4 an4 cd4 ct4), sl4⟩) (c4 : PySem.W.codeIn K cd4 "are_two_places" = true) (k4 : PySem.W.keepIn K (.ref f4) = true)
    (a5 : PySem.W.nsIn K mainGlobals "lesser_first" = some (some (.ref f5))) (l5 : K.lookup f5 = some ⟨oc5, od5, .func (PySem.W.fnOf "lesser_first" "lesser_first" (defArgs sLess) (defBody sLess) (defScope sLess) .none kV5 dc5 pm5 an5 cd5 ct5), sl5⟩) (c5 : PySem.W.codeIn K cd5 "lesser_first" = true) (k5 : PySem.W.keepIn K (.ref f5) = true)
    (a6 : PySem.W.nsIn K mainGlobals "pair_of" = some (some (.ref f6))) (l6 : K.lookup f6 = some ⟨oc6, od6, .func (PySem.W.fnOf "pair_of" "pair_of" (defArgs sPairOf) (defBody sPairOf) (defScope sPairOf) .none kV6 dc6 pm6 an6 cd6 ct6), sl6⟩) (c6 : PySem.W.codeIn K cd6 "pair_of" = true) (k6 : PySem.W.keepIn K (.ref f6) = true)
    (a7 : PySem.W.nsIn K mainGlobals "made_web" = some (some (.ref f7))) (l7 : K.lookup f7 = some ⟨oc7, od7, .func (PySem.W.fnOf "made_web" "made_web" (defArgs sMade) (defBody sMade) (defScope sMade) .none kV7 dc7 pm7 an7 cd7 ct7), sl7⟩) (c7 : PySem.W.codeIn K cd7 "made_web" = true) (k7 : PySem.W.keepIn K (.ref f7) = true)
    (a8 : PySem.W.nsIn K mainGlobals "tie_of" = some (some (.ref f8))) (l8 : K.lookup f8 = some ⟨oc8, od8, .func (PySem.W.fnOf "tie_of" "tie_of" (defArgs sTieOf) (defBody sTieOf) (defScope sTieOf) .none kV8 dc8 pm8 an8 cd8 ct8), sl8⟩) (c8 : PySem.W.codeIn K cd8 "tie_of" = true) (k8 : PySem.W.keepIn K (.ref f8) = true)
    (a9 : PySem.W.nsIn K mainGlobals "with_tie" = some (some (.ref f9))) (l9 : K.lookup f9 = some ⟨oc9, od9, .func (PySem.W.fnOf "with_tie" "with_tie" (defArgs sWithT) (defBody sWithT) (defScope sWithT) .none kV9 dc9 pm9 an9 cd9 ct9), sl9⟩) (c9 : PySem.W.codeIn K cd9 "with_tie" = true) (k9 : PySem.W.keepIn K (.ref f9) = true)
    (a10 : PySem.W.nsIn K mainGlobals "without_tie" = some (some (.ref f10))) (l10 : K.lookup f10 = some ⟨oc10, od10, .func (PySem.W.fnOf "without_tie" "without_tie" (defArgs sWoutT) (defBody sWoutT) (defScope sWoutT) .none kV10 dc10 pm10 an10 cd10 ct10), sl10⟩) (c10 : PySem.W.codeIn K cd10 "without_tie" = true) (k10 : PySem.W.keepIn K (.ref f10) = true)
    (a11 : PySem.W.findIn K (.ref cDesk) "__init__" = some (some (.ref f11))) (l11 : K.lookup f11 = some ⟨oc11, od11, .func (PySem.W.fnOf "__init__" "Desk.__init__" (defArgs sDkI) (defBody sDkI) (defScope sDkI) .none kV11 dc11 pm11 an11 cd11 ct11), sl11⟩) (c11 : PySem.W.codeIn K cd11 "Desk.__init__" = true) (k11 : PySem.W.keepIn K (.ref f11) = true)
    (a12 : PySem.W.findIn K (.ref cDesk) "web" = some (some (.ref f12))) (l12 : K.lookup f12 = some ⟨oc12, od12, .func (PySem.W.fnOf "web" "Desk.web" (defArgs sDkW) (defBody sDkW) (defScope sDkW) .none kV12 dc12 pm12 an12 cd12 ct12), sl12⟩) (c12 : PySem.W.codeIn K cd12 "Desk.web" = true) (k12 : PySem.W.keepIn K (.ref f12) = true)
    (a13 : PySem.W.findIn K (.ref cDesk) "put" = some (some (.ref f13))) (l13 : K.lookup f13 = some ⟨oc13, od13, .func (PySem.W.fnOf "put" "Desk.put" (defArgs sDkP) (defBody sDkP) (defScope sDkP) .none kV13 dc13 pm13 an13 cd13 ct13), sl13⟩) (c13 : PySem.W.codeIn K cd13 "Desk.put" = true) (k13 : PySem.W.keepIn K (.ref f13) = true)
    (a14 : PySem.W.findIn K (.ref cDesk) "take" = some (some (.ref f14))) (l14 : K.lookup f14 = some ⟨oc14, od14, .func (PySem.W.fnOf "take" "Desk.take" (defArgs sDkT) (defBody sDkT) (defScope sDkT) .none kV14 dc14 pm14 an14 cd14 ct14), sl14⟩) (c14 : PySem.W.codeIn K cd14 "Desk.take" = true) (k14 : PySem.W.keepIn K (.ref f14) = true)
    (a15 : PySem.W.findIn K (.ref cDesk) "back" = some (some (.ref f15))) (l15 : K.lookup f15 = some ⟨oc15, od15, .func (PySem.W.fnOf "back" "Desk.back" (defArgs sDkB) (defBody sDkB) (defScope sDkB) .none kV15 dc15 pm15 an15 cd15 ct15), sl15⟩) (c15 : PySem.W.codeIn K cd15 "Desk.back" = true) (k15 : PySem.W.keepIn K (.ref f15) = true)
    (a16 : PySem.W.nsIn K mainGlobals "_law_done" = some (some (.ref f16))) (l16 : K.lookup f16 = some ⟨oc16, od16, .func (PySem.W.fnOf "_law_done" "_law_done" (defArgs sLdone) (defBody sLdone) (defScope sLdone) .none kV16 dc16 pm16 an16 cd16 ct16), sl16⟩) (c16 : PySem.W.codeIn K cd16 "_law_done" = true) (k16 : PySem.W.keepIn K (.ref f16) = true)
    (a17 : PySem.W.nsIn K mainGlobals "_law_due" = some (some (.ref f17))) (l17 : K.lookup f17 = some ⟨oc17, od17, .func (PySem.W.fnOf "_law_due" "_law_due" (defArgs sLdue) (defBody sLdue) (defScope sLdue) .none kV17 dc17 pm17 an17 cd17 ct17), sl17⟩) (c17 : PySem.W.codeIn K cd17 "_law_due" = true) (k17 : PySem.W.keepIn K (.ref f17) = true)
    (a18 : PySem.W.nsIn K mainGlobals "_law_after" = some (some (.ref f18))) (l18 : K.lookup f18 = some ⟨oc18, od18, .func (PySem.W.fnOf "_law_after" "_law_after" (defArgs sLaft) (defBody sLaft) (defScope sLaft) .none kV18 dc18 pm18 an18 cd18 ct18), sl18⟩) (c18 : PySem.W.codeIn K cd18 "_law_after" = true) (k18 : PySem.W.keepIn K (.ref f18) = true)
    (a19 : PySem.W.nsIn K mainGlobals "_law_goes" = some (some (.ref f19))) (l19 : K.lookup f19 = some ⟨oc19, od19, .func (PySem.W.fnOf "_law_goes" "_law_goes" (defArgs sLgoes) (defBody sLgoes) (defScope sLgoes) .none kV19 dc19 pm19 an19 cd19 ct19), sl19⟩) (c19 : PySem.W.codeIn K cd19 "_law_goes" = true) (k19 : PySem.W.keepIn K (.ref f19) = true)
    (a20 : PySem.W.nsIn K mainGlobals "_law_all_back" = some (some (.ref f20))) (l20 : K.lookup f20 = some ⟨oc20, od20, .func (PySem.W.fnOf "_law_all_back" "_law_all_back" (defArgs sLback) (defBody sLback) (defScope sLback) .none kV20 dc20 pm20 an20 cd20 ct20), sl20⟩) (c20 : PySem.W.codeIn K cd20 "_law_all_back" = true) (k20 : PySem.W.keepIn K (.ref f20) = true)
    (a21 : PySem.W.nsIn K mainGlobals "law" = some (some (.ref f21))) (l21 : K.lookup f21 = some ⟨oc21, od21, .func (PySem.W.fnOf "law" "law" (defArgs sLaw) (defBody sLaw) (defScope sLaw) .none kV21 dc21 pm21 an21 cd21 ct21), sl21⟩) (c21 : PySem.W.codeIn K cd21 "law" = true) (k21 : PySem.W.keepIn K (.ref f21) = true)
    (a22 : PySem.W.nsIn K mainGlobals "_law_cell_at" = some (some (.ref f22))) (l22 : K.lookup f22 = some ⟨oc22, od22, .func (PySem.W.fnOf "_law_cell_at" "_law_cell_at" (defArgs sCellAt) (defBody sCellAt) (defScope sCellAt) .none kV22 dc22 pm22 an22 cd22 ct22), sl22⟩) (c22 : PySem.W.codeIn K cd22 "_law_cell_at" = true) (k22 : PySem.W.keepIn K (.ref f22) = true)
    (a23 : PySem.W.nsIn K mainGlobals "_law_stream" = some (some (.ref f23))) (l23 : K.lookup f23 = some ⟨oc23, od23, .func (PySem.W.fnOf "_law_stream" "_law_stream" (defArgs sStream) (defBody sStream) (defScope sStream) .none kV23 dc23 pm23 an23 cd23 ct23), sl23⟩) (c23 : PySem.W.codeIn K cd23 "_law_stream" = true) (k23 : PySem.W.keepIn K (.ref f23) = true)
    (a24 : PySem.W.nsIn K mainGlobals "_law_next" = some (some (.ref f24))) (l24 : K.lookup f24 = some ⟨oc24, od24, .func (PySem.W.fnOf "_law_next" "_law_next" (defArgs sNext) (defBody sNext) (defScope sNext) .none kV24 dc24 pm24 an24 cd24 ct24), sl24⟩) (c24 : PySem.W.codeIn K cd24 "_law_next" = true) (k24 : PySem.W.keepIn K (.ref f24) = true)
    (z0 : PySem.W.nsIn K mainGlobals "len" = some none)
    (z1 : PySem.W.nsIn K mainGlobals "int" = some none)
    (z2 : PySem.W.nsIn K mainGlobals "bool" = some none)
    (z3 : PySem.W.nsIn K mainGlobals "range" = some none)
    (z4 : PySem.W.nsIn K mainGlobals "tuple" = some none)
    (z5 : PySem.W.nsIn K mainGlobals "repr" = some none)
    (z6 : PySem.W.nsIn K mainGlobals "enumerate" = some none)
    (z7 : PySem.W.nsIn K mainGlobals "sorted" = some none)
    (z8 : PySem.W.nsIn K mainGlobals "list" = some none)
    (z9 : PySem.W.nsIn K mainGlobals "isinstance" = some none)
    (z10 : PySem.W.nsIn K mainGlobals "min" = some none)
    (z11 : PySem.W.nsIn K mainGlobals "max" = some none)
    (z12 : PySem.W.nsIn K mainGlobals "all" = some none)
    (z13 : PySem.W.nsIn K mainGlobals "any" = some none)
    (z14 : PySem.W.nsIn K mainGlobals "zip" = some none)
    (z15 : PySem.W.nsIn K mainGlobals "reversed" = some none)
    (z16 : PySem.W.nsIn K mainGlobals "set" = some none)
    (z17 : PySem.W.nsIn K mainGlobals "ValueError" = some none)
    (e_cNoWeb : PySem.W.nsIn K mainGlobals "NoWeb" = some (some (.ref cNoWeb)))
    (e_cNoTie : PySem.W.nsIn K mainGlobals "NoTie" = some (some (.ref cNoTie)))
    (e_cNothingBack : PySem.W.nsIn K mainGlobals "NothingBack" = some (some (.ref cNothingBack)))
    (e_cRingsError : PySem.W.nsIn K mainGlobals "RingsError" = some (some (.ref cRingsError)))
    (e_cNoHeld : PySem.W.nsIn K mainGlobals "NoHeld" = some (some (.ref cNoHeld)))
    (e_cNoNumber : PySem.W.nsIn K mainGlobals "NoNumber" = some (some (.ref cNoNumber)))
    (e_cNoPut : PySem.W.nsIn K mainGlobals "NoPut" = some (some (.ref cNoPut)))
    (e_cNoRing : PySem.W.nsIn K mainGlobals "NoRing" = some (some (.ref cNoRing)))
    (e_cNoRow : PySem.W.nsIn K mainGlobals "NoRow" = some (some (.ref cNoRow)))
    (e_cNoText : PySem.W.nsIn K mainGlobals "NoText" = some (some (.ref cNoText)))
    (e_cNoWay : PySem.W.nsIn K mainGlobals "NoWay" = some (some (.ref cNoWay)))
    (e_cNotRich : PySem.W.nsIn K mainGlobals "NotRich" = some (some (.ref cNotRich)))
    (e_cTooFew : PySem.W.nsIn K mainGlobals "TooFew" = some (some (.ref cTooFew)))
    (e_cTooGreat : PySem.W.nsIn K mainGlobals "TooGreat" = some (some (.ref cTooGreat)))
    (e_cDesk : PySem.W.nsIn K mainGlobals "Desk" = some (some (.ref cDesk)))
    (x_NoWeb : PySem.W.excIn K cNoWeb [.type "ValueError", .type "Exception", .type "BaseException", .type "object"] "ValueError.__new__" = true)
    (x_NoTie : PySem.W.excIn K cNoTie [.type "ValueError", .type "Exception", .type "BaseException", .type "object"] "ValueError.__new__" = true)
    (x_NothingBack : PySem.W.excIn K cNothingBack [.type "ValueError", .type "Exception", .type "BaseException", .type "object"] "ValueError.__new__" = true)
    (x_RingsError : PySem.W.excIn K cRingsError [.type "ValueError", .type "Exception", .type "BaseException", .type "object"] "ValueError.__new__" = true)
    (tNoTie_hd : PySem.W.hasDictIn K cNoTie = true)
    (tNoTie_ga : PySem.W.findIn K (.ref cNoTie) "__getattribute__" = some (some (.builtin "BaseException.__getattribute__")))
    (tNoTie_gt : PySem.W.findIn K (.ref cNoTie) "__getattr__" = some none)
    (tNoTie_cl : PySem.W.findIn K (.ref cNoTie) "__class__" = some (some (.builtin "object.__class__")))
    (tNoTie_mo : PySem.W.mroIn K cNoTie (.type "object") = some true)
    (tNoTie_mb : PySem.W.mroIn K cNoTie (.type "BaseException") = some true)
    (tNothingBack_hd : PySem.W.hasDictIn K cNothingBack = true)
    (tNothingBack_ga : PySem.W.findIn K (.ref cNothingBack) "__getattribute__" = some (some (.builtin "BaseException.__getattribute__")))
    (tNothingBack_gt : PySem.W.findIn K (.ref cNothingBack) "__getattr__" = some none)
    (tNothingBack_cl : PySem.W.findIn K (.ref cNothingBack) "__class__" = some (some (.builtin "object.__class__")))
    (tNothingBack_mo : PySem.W.mroIn K cNothingBack (.type "object") = some true)
    (tNothingBack_mb : PySem.W.mroIn K cNothingBack (.type "BaseException") = some true)
    (fkv_NoTie : PySem.W.kitOne K (.ref cNoTie) (.type "ValueError") = some true)
    (fmi_NoTie : PySem.W.mroIn K cNoTie (.ref cRingsError) = some true)
    (fa1_NoTie : PySem.W.kitAny K (.ref cNoTie) [.ref cNoHeld, .ref cNoNumber, .ref cNoPut, .ref cNoRing, .ref cNoRow, .ref cNoText] = some false)
    (fa2_NoTie : PySem.W.kitAny K (.ref cNoTie) [.ref cNoWay, .ref cNoWeb, .ref cNotRich, .ref cTooFew, .ref cTooGreat] = some false)
    (fkv_NothingBack : PySem.W.kitOne K (.ref cNothingBack) (.type "ValueError") = some true)
    (fmi_NothingBack : PySem.W.mroIn K cNothingBack (.ref cRingsError) = some true)
    (fa1_NothingBack : PySem.W.kitAny K (.ref cNothingBack) [.ref cNoHeld, .ref cNoNumber, .ref cNoPut, .ref cNoRing, .ref cNoRow, .ref cNoText] = some false)
    (fa2_NothingBack : PySem.W.kitAny K (.ref cNothingBack) [.ref cNoWay, .ref cNoWeb, .ref cNotRich, .ref cTooFew, .ref cTooGreat] = some false)
    (fk_NoTie_NothingBack : PySem.W.kitOne K (.ref cNoTie) (.ref cNothingBack) = some false)
    (fk_NothingBack_NoTie : PySem.W.kitOne K (.ref cNothingBack) (.ref cNoTie) = some false)
    (q_FEWEST_PLACES : PySem.W.nsIn K mainGlobals "FEWEST_PLACES" = some (some (.int 3 qt_FEWEST_PLACES)))
    (q_MOST_PLACES : PySem.W.nsIn K mainGlobals "MOST_PLACES" = some (some (.int 20 qt_MOST_PLACES)))
    (pg_Desk : PySem.W.plainGet K cDesk Str.empty = true)
    (hd_Desk : PySem.W.hasDictIn K cDesk = true)
    (po_Desk : PySem.W.plainOver K cDesk = true)
    (sa_Desk : PySem.W.findIn K (.ref cDesk) "__setattr__" = some (some (.builtin "object.__setattr__")))
    (mk_Desk : PySem.W.makesIn K cDesk = true)
    (kp_Desk : PySem.W.keepIn K (.ref cDesk) = true)
    (hf_11 : PySem.W.isFn K (.ref f11) = true)
    (hf_12 : PySem.W.isFn K (.ref f12) = true)
    (hf_13 : PySem.W.isFn K (.ref f13) = true)
    (hf_14 : PySem.W.isFn K (.ref f14) = true)
    (hf_15 : PySem.W.isFn K (.ref f15) = true)
    (na_Desk_now : PySem.W.findIn K (.ref cDesk) "now" = some none)
    (na_Desk_deeds : PySem.W.findIn K (.ref cDesk) "deeds" = some none)
    : ∃ fd : FuncData, (∀ (s : Shared) (v : Value), BindsTo s fd ⟨[v], []⟩ [("_law_script", v)]) ∧ ∀ base : Heap, K.In base → base.Ns mainGlobals mg → FnOk l.prog w K mg base CX0 9 fa fd ["_law_script"] (spLaw K) := by
  have e := hfa.symm.trans (PySem.W.mg_of X G a21)
  cases e
  have T : Bl mg := ⟨PySem.W.mg_none_of X G z0, PySem.W.mg_none_of X G z1, PySem.W.mg_none_of X G z2, PySem.W.mg_none_of X G z3, PySem.W.mg_none_of X G z4, PySem.W.mg_none_of X G z5, PySem.W.mg_none_of X G z6, PySem.W.mg_none_of X G z7, PySem.W.mg_none_of X G z8, PySem.W.mg_none_of X G z9, PySem.W.mg_none_of X G z10, PySem.W.mg_none_of X G z11, PySem.W.mg_none_of X G z12, PySem.W.mg_none_of X G z13, PySem.W.mg_none_of X G z14, PySem.W.mg_none_of X G z15, PySem.W.mg_none_of X G z16, PySem.W.mg_none_of X G z17⟩
  have F0 := fun_mk (st := sIsInt) l0 c0 k0
  have b0 := F0.binds (ps := ["thing"]) fun _ _ _ _ _ _ us hl => match us, hl with | [_], _ => rfl
  have m0 := PySem.W.mg_of X G a0
  have F1 := fun_mk (st := sIsLT) l1 c1 k1
  have b1 := F1.binds (ps := ["thing"]) fun _ _ _ _ _ _ us hl => match us, hl with | [_], _ => rfl
  have m1 := PySem.W.mg_of X G a1
  have F2 := fun_mk (st := sIsMany) l2 c2 k2
  have b2 := F2.binds (ps := ["thing"]) fun _ _ _ _ _ _ us hl => match us, hl with | [_], _ => rfl
  have m2 := PySem.W.mg_of X G a2
  have F3 := fun_mk (st := sIsPl) l3 c3 k3
  have b3 := F3.binds (ps := ["many", "thing"]) fun _ _ _ _ _ _ us hl => match us, hl with | [_, _], _ => rfl
  have m3 := PySem.W.mg_of X G a3
  have F4 := fun_mk (st := sTwo) l4 c4 k4
  have b4 := F4.binds (ps := ["many", "a", "b"]) fun _ _ _ _ _ _ us hl => match us, hl with | [_, _, _], _ => rfl
  have m4 := PySem.W.mg_of X G a4
  have F5 := fun_mk (st := sLess) l5 c5 k5
  have b5 := F5.binds (ps := ["a", "b"]) fun _ _ _ _ _ _ us hl => match us, hl with | [_, _], _ => rfl
  have m5 := PySem.W.mg_of X G a5
  have F6 := fun_mk (st := sPairOf) l6 c6 k6
  have b6 := F6.binds (ps := ["many", "thing"]) fun _ _ _ _ _ _ us hl => match us, hl with | [_, _], _ => rfl
  have m6 := PySem.W.mg_of X G a6
  have F7 := fun_mk (st := sMade) l7 c7 k7
  have b7 := F7.binds (ps := ["many", "ties"]) fun _ _ _ _ _ _ us hl => match us, hl with | [_, _], _ => rfl
  have m7 := PySem.W.mg_of X G a7
  have F8 := fun_mk (st := sTieOf) l8 c8 k8
  have b8 := F8.binds (ps := ["many", "a", "b"]) fun _ _ _ _ _ _ us hl => match us, hl with | [_, _, _], _ => rfl
  have m8 := PySem.W.mg_of X G a8
  have F9 := fun_mk (st := sWithT) l9 c9 k9
  have b9 := F9.binds (ps := ["web", "a", "b"]) fun _ _ _ _ _ _ us hl => match us, hl with | [_, _, _], _ => rfl
  have m9 := PySem.W.mg_of X G a9
  have F10 := fun_mk (st := sWoutT) l10 c10 k10
  have b10 := F10.binds (ps := ["web", "a", "b"]) fun _ _ _ _ _ _ us hl => match us, hl with | [_, _, _], _ => rfl
  have m10 := PySem.W.mg_of X G a10
  have F11 := fun_mk (st := sDkI) l11 c11 k11
  have b11 := F11.binds (ps := ["self", "many"]) fun _ _ _ _ _ _ us hl => match us, hl with | [_, _], _ => rfl
  have F12 := fun_mk (st := sDkW) l12 c12 k12
  have b12 := F12.binds (ps := ["self"]) fun _ _ _ _ _ _ us hl => match us, hl with | [_], _ => rfl
  have F13 := fun_mk (st := sDkP) l13 c13 k13
  have b13 := F13.binds (ps := ["self", "a", "b"]) fun _ _ _ _ _ _ us hl => match us, hl with | [_, _, _], _ => rfl
  have F14 := fun_mk (st := sDkT) l14 c14 k14
  have b14 := F14.binds (ps := ["self", "a", "b"]) fun _ _ _ _ _ _ us hl => match us, hl with | [_, _, _], _ => rfl
  have F15 := fun_mk (st := sDkB) l15 c15 k15
  have b15 := F15.binds (ps := ["self"]) fun _ _ _ _ _ _ us hl => match us, hl with | [_], _ => rfl
  have F16 := fun_mk (st := sLdone) l16 c16 k16
  have b16 := F16.binds (ps := ["_law_desk", "_law_word", "_law_a", "_law_b"]) fun _ _ _ _ _ _ us hl => match us, hl with | [_, _, _, _], _ => rfl
  have m16 := PySem.W.mg_of X G a16
  have F17 := fun_mk (st := sLdue) l17 c17 k17
  have b17 := F17.binds (ps := ["_law_ties", "_law_past", "_law_word", "_law_tie"]) fun _ _ _ _ _ _ us hl => match us, hl with | [_, _, _, _], _ => rfl
  have m17 := PySem.W.mg_of X G a17
  have F18 := fun_mk (st := sLaft) l18 c18 k18
  have b18 := F18.binds (ps := ["_law_ties", "_law_word", "_law_tie"]) fun _ _ _ _ _ _ us hl => match us, hl with | [_, _, _], _ => rfl
  have m18 := PySem.W.mg_of X G a18
  have F19 := fun_mk (st := sLgoes) l19 c19 k19
  have b19 := F19.binds (ps := ["_law_xs", "_law_many"]) fun _ _ _ _ _ _ us hl => match us, hl with | [_, _], _ => rfl
  have m19 := PySem.W.mg_of X G a19
  have F20 := fun_mk (st := sLback) l20 c20 k20
  have b20 := F20.binds (ps := ["_law_xs"]) fun _ _ _ _ _ _ us hl => match us, hl with | [_], _ => rfl
  have m20 := PySem.W.mg_of X G a20
  have F21 := fun_mk (st := sLaw) l21 c21 k21
  have b21 := F21.binds (ps := ["_law_script"]) fun _ _ _ _ _ _ us hl => match us, hl with | [_], _ => rfl
  have m21 := PySem.W.mg_of X G a21
  have F22 := fun_mk (st := sCellAt) l22 c22 k22
  have b22 := F22.binds (ps := ["_law_script", "_law_k"]) fun _ _ _ _ _ _ us hl => match us, hl with | [_, _], _ => rfl
  have m22 := PySem.W.mg_of X G a22
  have F23 := fun_mk (st := sStream) l23 c23 k23
  have b23 := F23.binds (ps := ["_law_cell", "_law_many"]) fun _ _ _ _ _ _ us hl => match us, hl with | [_, _], _ => rfl
  have m23 := PySem.W.mg_of X G a23
  have F24 := fun_mk (st := sNext) l24 c24 k24
  have b24 := F24.binds (ps := ["_law_xs", "_law_many"]) fun _ _ _ _ _ _ us hl => match us, hl with | [_, _], _ => rfl
  have m24 := PySem.W.mg_of X G a24
  have m_cNoWeb := PySem.W.mg_of X G e_cNoWeb
  have m_cNoTie := PySem.W.mg_of X G e_cNoTie
  have m_cNothingBack := PySem.W.mg_of X G e_cNothingBack
  have m_cRingsError := PySem.W.mg_of X G e_cRingsError
  have m_cNoHeld := PySem.W.mg_of X G e_cNoHeld
  have m_cNoNumber := PySem.W.mg_of X G e_cNoNumber
  have m_cNoPut := PySem.W.mg_of X G e_cNoPut
  have m_cNoRing := PySem.W.mg_of X G e_cNoRing
  have m_cNoRow := PySem.W.mg_of X G e_cNoRow
  have m_cNoText := PySem.W.mg_of X G e_cNoText
  have m_cNoWay := PySem.W.mg_of X G e_cNoWay
  have m_cNotRich := PySem.W.mg_of X G e_cNotRich
  have m_cTooFew := PySem.W.mg_of X G e_cTooFew
  have m_cTooGreat := PySem.W.mg_of X G e_cTooGreat
  have m_cDesk := PySem.W.mg_of X G e_cDesk
  refine ⟨PySem.W.fnOf "law" "law" (defArgs sLaw) (defBody sLaw) (defScope sLaw) .none kV21 dc21 pm21 an21 cd21 ct21, fun s v => .of_eq rfl, fun base _ _ => ?_⟩
  exact ok_Law (⟨_, _, F0, m0, b0, _, _, F1, m1, b1, _, _, F2, m2, b2, _, _, F3, m3, b3, _, _, F4, m4, b4, _, _, F5, m5, b5, _, _, F6, m6, b6, _, _, F7, m7, b7, _, _, F8, m8, b8, _, _, F9, m9, b9, _, _, F10, m10, b10, _, _, F11, b11, _, _, F12, b12, _, _, F13, b13, _, _, F14, b14, _, _, F15, b15, _, _, F16, m16, b16, _, _, F17, m17, b17, _, _, F18, m18, b18, _, _, F19, m19, b19, _, _, F20, m20, b20, _, _, F21, m21, b21, _, _, F22, m22, b22, _, _, F23, m23, b23, _, _, F24, m24, b24, ⟨_, PySem.W.mg_of X G q_FEWEST_PLACES⟩, ⟨_, PySem.W.mg_of X G q_MOST_PLACES⟩, _, (⟨m_cNoWeb, _, _, _, PySem.F.excBase_ValueError, x_NoWeb⟩ : Own K mg "NoWeb" cNoWeb), _, (⟨m_cNoTie, _, _, _, PySem.F.excBase_ValueError, x_NoTie⟩ : Own K mg "NoTie" cNoTie), _, (⟨m_cNothingBack, _, _, _, PySem.F.excBase_ValueError, x_NothingBack⟩ : Own K mg "NothingBack" cNothingBack), _, (⟨m_cRingsError, _, _, _, PySem.F.excBase_ValueError, x_RingsError⟩ : Own K mg "RingsError" cRingsError), _, m_cNoHeld, _, m_cNoNumber, _, m_cNoPut, _, m_cNoRing, _, m_cNoRow, _, m_cNoText, _, m_cNoWay, _, m_cNotRich, _, m_cTooFew, _, m_cTooGreat, _, m_cDesk, ⟨pg_Desk, hd_Desk, po_Desk, sa_Desk⟩, ⟨mk_Desk, a11, hf_11, kp_Desk⟩, ⟨a12, hf_12, k12⟩, ⟨a13, hf_13, k13⟩, ⟨a14, hf_14, k14⟩, ⟨a15, hf_15, k15⟩, na_Desk_now, na_Desk_deeds, fkv_NoTie, fmi_NoTie, fa1_NoTie, fa2_NoTie, fkv_NothingBack, fmi_NothingBack, fa1_NothingBack, fa2_NothingBack, fk_NoTie_NothingBack, fk_NothingBack_NoTie, (⟨let ⟨cd, h, _⟩ := PySem.W.any_some tNoTie_hd; ⟨cd, h⟩, tNoTie_ga, tNoTie_gt, tNoTie_cl, tNoTie_mo, tNoTie_mb⟩ : PySem.W.ExcCls K cNoTie), (⟨let ⟨cd, h, _⟩ := PySem.W.any_some tNothingBack_hd; ⟨cd, h⟩, tNothingBack_ga, tNothingBack_gt, tNothingBack_cl, tNothingBack_mo, tNothingBack_mb⟩ : PySem.W.ExcCls K cNothingBack)⟩ : Fs K mg) T
theorem walk {l : PySem.W.OpenLaw} {q : Program} {loose : List Str} {XP : (Str → Option Value) → Heap → Prop} {YP : World → Heap → Prop} {d : DefRec} {K : Params → PySem.W.Frag} (hn : l.most = some 63) (hdf : d.params.defaults = [])
    (hY : ∀ (w : World) (h : Heap), YP w h → (K w.params).In h)
    (F : ∀ (w : World) (mg : Str → Option Value) (fa : Addr) (h : Heap), (K w.params).In h → h.Ns mainGlobals mg → mg d.name = some (.ref fa) →
      ∃ fd : FuncData, (∀ (s : Shared) (u : Value), BindsTo s fd ⟨[u], []⟩ [("_law_script", u)]) ∧ ∀ base : Heap, (K w.params).In base → base.Ns mainGlobals mg → FnOk l.prog w (K w.params) mg base CX0 9 fa fd ["_law_script"] (spLaw (K w.params))) :
    PySem.W.WalkO q loose XP YP l.row.toRowW d [] (fun f vs => PySem.call f vs) :=
  L2.walk_of (n := 63) (k := 9) (x := "_law_script") (CX := fun _ => CX0) (sp := fun w => spLaw (K w.params)) hn (by decide) hdf ⟨rfl, by decide, by decide, rfl⟩ hY F (fun _ _ a ns hl _ hS => ⟨a, ns, rfl, hS, hl, fun _ => rfl⟩) fun _ _ _ _ _ z => z
end Wb
open PySem PySem.W PyProof.Rows
set_option maxRecDepth 100000 in
set_option maxHeartbeats 0 in
theorem PySem.Challenge.cw_closedrings_k46_desk_deeds_holds : PySem.Challenge.rw_closedrings_k46_desk_deeds.Holds := by
  w_on; o_law; k_head; (case hw => w_witness2)
  k_fill
  refine Wb.walk (l := PySem.Challenge.rw_closedrings_k46_desk_deeds) rfl rfl (fun w h Y => by first | exact PySem.W.kIn_of Y | exact PySem.W.km_in_of Y) ?F
  case F =>
    intro w mg fa h KX G hmg
    refine' Wb.all_mk KX G hmg ?a0 ?l0 ?c0 ?k0 ?a1 ?l1 ?c1 ?k1 ?a2 ?l2 ?c2 ?k2 ?a3 ?l3 ?c3 ?k3 ?a4 ?l4 ?c4 ?k4 ?a5 ?l5 ?c5 ?k5 ?a6 ?l6 ?c6 ?k6 ?a7 ?l7 ?c7 ?k7 ?a8 ?l8 ?c8 ?k8 ?a9 ?l9 ?c9 ?k9 ?a10 ?l10 ?c10 ?k10 ?a11 ?l11 ?c11 ?k11 ?a12 ?l12 ?c12 ?k12 ?a13 ?l13 ?c13 ?k13 ?a14 ?l14 ?c14 ?k14 ?a15 ?l15 ?c15 ?k15 ?a16 ?l16 ?c16 ?k16 ?a17 ?l17 ?c17 ?k17 ?a18 ?l18 ?c18 ?k18 ?a19 ?l19 ?c19 ?k19 ?a20 ?l20 ?c20 ?k20 ?a21 ?l21 ?c21 ?k21 ?a22 ?l22 ?c22 ?k22 ?a23 ?l23 ?c23 ?k23 ?a24 ?l24 ?c24 ?k24 ?z0 ?z1 ?z2 ?z3 ?z4 ?z5 ?z6 ?z7 ?z8 ?z9 ?z10 ?z11 ?z12 ?z13 ?z14 ?z15 ?z16 ?z17 ?e_cNoWeb ?e_cNoTie ?e_cNothingBack ?e_cRingsError ?e_cNoHeld ?e_cNoNumber ?e_cNoPut ?e_cNoRing ?e_cNoRow ?e_cNoText ?e_cNoWay ?e_cNotRich ?e_cTooFew ?e_cTooGreat ?e_cDesk ?x_NoWeb ?x_NoTie ?x_NothingBack ?x_RingsError ?tNoTie_hd ?tNoTie_ga ?tNoTie_gt ?tNoTie_cl ?tNoTie_mo ?tNoTie_mb ?tNothingBack_hd ?tNothingBack_ga ?tNothingBack_gt ?tNothingBack_cl ?tNothingBack_mo ?tNothingBack_mb ?fkv_NoTie ?fmi_NoTie ?fa1_NoTie ?fa2_NoTie ?fkv_NothingBack ?fmi_NothingBack ?fa1_NothingBack ?fa2_NothingBack ?fk_NoTie_NothingBack ?fk_NothingBack_NoTie ?q_FEWEST_PLACES ?q_MOST_PLACES ?pg_Desk ?hd_Desk ?po_Desk ?sa_Desk ?mk_Desk ?kp_Desk ?hf_11 ?hf_12 ?hf_13 ?hf_14 ?hf_15 ?na_Desk_now ?na_Desk_deeds
    (case e_cDesk => k_is)
    (case e_cTooGreat => k_is)
    (case e_cTooFew => k_is)
    (case e_cNotRich => k_is)
    (case e_cNoWay => k_is)
    (case e_cNoText => k_is)
    (case e_cNoRow => k_is)
    (case e_cNoRing => k_is)
    (case e_cNoPut => k_is)
    (case e_cNoNumber => k_is)
    (case e_cNoHeld => k_is)
    (case e_cRingsError => k_is)
    (case e_cNothingBack => k_is)
    (case e_cNoTie => k_is)
    (case e_cNoWeb => k_is)
    (case a0 => k_is)
    (case l0 => k_is)
    (case c0 => k_is)
    (case k0 => k_is)
    (case a1 => k_is)
    (case l1 => k_is)
    (case c1 => k_is)
    (case k1 => k_is)
    (case a2 => k_is)
    (case l2 => k_is)
    (case c2 => k_is)
    (case k2 => k_is)
    (case a3 => k_is)
    (case l3 => k_is)
    (case c3 => k_is)
    (case k3 => k_is)
    (case a4 => k_is)
    (case l4 => k_is)
    (case c4 => k_is)
    (case k4 => k_is)
    (case a5 => k_is)
    (case l5 => k_is)
    (case c5 => k_is)
    (case k5 => k_is)
    (case a6 => k_is)
    (case l6 => k_is)
    (case c6 => k_is)
    (case k6 => k_is)
    (case a7 => k_is)
    (case l7 => k_is)
    (case c7 => k_is)
    (case k7 => k_is)
    (case a8 => k_is)
    (case l8 => k_is)
    (case c8 => k_is)
    (case k8 => k_is)
    (case a9 => k_is)
    (case l9 => k_is)
    (case c9 => k_is)
    (case k9 => k_is)
    (case a10 => k_is)
    (case l10 => k_is)
    (case c10 => k_is)
    (case k10 => k_is)
    (case a11 => k_is)
    (case l11 => k_is)
    (case c11 => k_is)
    (case k11 => k_is)
    (case a12 => k_is)
    (case l12 => k_is)
    (case c12 => k_is)
    (case k12 => k_is)
    (case a13 => k_is)
    (case l13 => k_is)
    (case c13 => k_is)
    (case k13 => k_is)
    (case a14 => k_is)
    (case l14 => k_is)
    (case c14 => k_is)
    (case k14 => k_is)
    (case a15 => k_is)
    (case l15 => k_is)
    (case c15 => k_is)
    (case k15 => k_is)
    (case a16 => k_is)
    (case l16 => k_is)
    (case c16 => k_is)
    (case k16 => k_is)
    (case a17 => k_is)
    (case l17 => k_is)
    (case c17 => k_is)
    (case k17 => k_is)
    (case a18 => k_is)
    (case l18 => k_is)
    (case c18 => k_is)
    (case k18 => k_is)
    (case a19 => k_is)
    (case l19 => k_is)
    (case c19 => k_is)
    (case k19 => k_is)
    (case a20 => k_is)
    (case l20 => k_is)
    (case c20 => k_is)
    (case k20 => k_is)
    (case a21 => k_is)
    (case l21 => k_is)
    (case c21 => k_is)
    (case k21 => k_is)
    (case a22 => k_is)
    (case l22 => k_is)
    (case c22 => k_is)
    (case k22 => k_is)
    (case a23 => k_is)
    (case l23 => k_is)
    (case c23 => k_is)
    (case k23 => k_is)
    (case a24 => k_is)
    (case l24 => k_is)
    (case c24 => k_is)
    (case k24 => k_is)
    (case z0 => k_is)
    (case z1 => k_is)
    (case z2 => k_is)
    (case z3 => k_is)
    (case z4 => k_is)
    (case z5 => k_is)
    (case z6 => k_is)
    (case z7 => k_is)
    (case z8 => k_is)
    (case z9 => k_is)
    (case z10 => k_is)
    (case z11 => k_is)
    (case z12 => k_is)
    (case z13 => k_is)
    (case z14 => k_is)
    (case z15 => k_is)
    (case z16 => k_is)
    (case z17 => k_is)
    (case x_NoWeb => k_exc)
    (case x_NoTie => k_exc)
    (case x_NothingBack => k_exc)
    (case x_RingsError => k_exc)
    (case tNoTie_hd => k_is)
    (case tNoTie_ga => k_is)
    (case tNoTie_gt => k_is)
    (case tNoTie_cl => k_is)
    (case tNoTie_mo => k_is)
    (case tNoTie_mb => k_is)
    (case tNothingBack_hd => k_is)
    (case tNothingBack_ga => k_is)
    (case tNothingBack_gt => k_is)
    (case tNothingBack_cl => k_is)
    (case tNothingBack_mo => k_is)
    (case tNothingBack_mb => k_is)
    (case fkv_NoTie => kit_is)
    (case fmi_NoTie => k_is)
    (case fa1_NoTie => kit_is)
    (case fa2_NoTie => kit_is)
    (case fkv_NothingBack => kit_is)
    (case fmi_NothingBack => k_is)
    (case fa1_NothingBack => kit_is)
    (case fa2_NothingBack => kit_is)
    (case fk_NoTie_NothingBack => kit_is)
    (case fk_NothingBack_NoTie => kit_is)
    (case q_FEWEST_PLACES => k_is)
    (case q_MOST_PLACES => k_is)
    (case pg_Desk => k_is)
    (case hd_Desk => k_is)
    (case po_Desk => k_is)
    (case sa_Desk => k_is)
    (case mk_Desk => k_is)
    (case kp_Desk => k_is)
    (case hf_11 => k_is)
    (case hf_12 => k_is)
    (case hf_13 => k_is)
    (case hf_14 => k_is)
    (case hf_15 => k_is)
    (case na_Desk_now => k_is)
    (case na_Desk_deeds => k_is)

