import PyProof.Rows.All
import Wide.All
import OpenK.AllK
import Wide.FinOn
import PyProof.EqAt
import PyProof.EqKinds
import PyProof.TupleCall
import KE.BitLaws
import Open.SpecLaws
import KE.OsHead
import KE.OsGo
import PyProof.RaisesMany
import PyProof.RulesTry
import PyProof.ExcInit
import PyProof.InstStoreFacts
import PyProof.ExcArgsOwn
import PyProof.ExcAttrAll.ValueError
import PyProof.ExcBaseAll.ValueError
import PyProof.RulesAs
import PyProof.NsDelKeeps
import PyProof.WalkInts
import PyProof.Rows.CallKwBuiltin
import PyProof.TupleOfSeq
import PyProof.Rows.SortWalk
import PyProof.SeqI3
import PyProof.MaxThree
import PyProof.ListRange
import PySem.Challenge.RW_beadbodies_s05_turned
section
set_option Elab.async false
set_option linter.all false
set_option maxRecDepth 100000
/-! THE HAND LAYER, for ints, bools, texts, own classes, lists, tuples, dicts, comprehensions, walks over dicts, enumerate, zip, reversed, texts, calls, loops. Paste it whole ahead of your own text; what your proof does not reach may be deleted. -/
namespace L2
open PySem PySem.Spec PyProof.Rows

/-- a key: an int or a str -/
abbrev Key := Sum Int Str
def keyIs : Key → Value → Bool
  | .inl k, v => Value.isInt k v
  | .inr x, v => Value.isStrOf x v
def keyH (w : World) : Key → Int
  | .inl k => hashInt k
  | .inr x => hashStr w x
theorem keyIs_shape : ∀ {k : Key} {v : Value}, keyIs k v = true → (∃ i t, k = Sum.inl i ∧ v = Value.int i t) ∨ (∃ x t, k = Sum.inr x ∧ v = Value.str x t)
  | .inl i, v, h => by
    obtain ⟨t, e⟩ := Value.isInt_shape (k := i) (v := v) h
    exact .inl ⟨i, t, rfl, e⟩
  | .inr x, v, h => by
    obtain ⟨t, e⟩ := Value.isStrOf_shape (x := x) (v := v) h
    exact .inr ⟨x, t, rfl, e⟩
theorem key_ll (a b : Int) : decide ((Sum.inl a : Key) = Sum.inl b) = (a == b) := by
  by_cases e : a = b
  · subst e; simp
  · have h : ¬ (Sum.inl a : Key) = Sum.inl b := fun q => e (Sum.inl.inj q)
    rw [decide_eq_false h]
    exact (beq_eq_false_iff_ne.mpr e).symm
theorem key_rr (a b : Str) : decide ((Sum.inr a : Key) = Sum.inr b) = decide (a = b) := by
  by_cases e : a = b
  · subst e; simp
  · have h : ¬ (Sum.inr a : Key) = Sum.inr b := fun q => e (Sum.inr.inj q)
    rw [decide_eq_false h, decide_eq_false e]
theorem key_lr (a : Int) (b : Str) : decide ((Sum.inl a : Key) = Sum.inr b) = false := decide_eq_false (fun q => nomatch q)
theorem key_rl (a : Str) (b : Int) : decide ((Sum.inr a : Key) = Sum.inl b) = false := decide_eq_false (fun q => nomatch q)

def mixKind (prog : Program) (w : World) : PySem.KeyKind prog w Key where
  is := keyIs
  hash := keyH w
  inj := fun v a b ha hb => by
    rcases keyIs_shape ha with ⟨i, t, rfl, rfl⟩ | ⟨x, t, rfl, rfl⟩
    · rcases keyIs_shape hb with ⟨j, u, rfl, e⟩ | ⟨y, u, rfl, e⟩
      · injection e with e1 _; rw [e1]
      · exact nomatch e
    · rcases keyIs_shape hb with ⟨j, u, rfl, e⟩ | ⟨y, u, rfl, e⟩
      · exact nomatch e
      · injection e with e1 _; rw [e1]
  byValue := fun k v h => by
    rcases keyIs_shape h with ⟨i, t, rfl, rfl⟩ | ⟨x, t, rfl, rfl⟩ <;> rfl
  pyHash := fun hv h => by
    rcases keyIs_shape hv with ⟨i, t, rfl, rfl⟩ | ⟨x, t, rfl, rfl⟩
    · exact wpAny_pyHash_int h
    · exact wpAny_pyHash_str h
  eqBool := fun hu hv h => by
    rcases keyIs_shape hu with ⟨i, t, rfl, rfl⟩ | ⟨x, t, rfl, rfl⟩
    · rcases keyIs_shape hv with ⟨j, u, rfl, rfl⟩ | ⟨y, u, rfl, rfl⟩
      · rw [key_ll] at h; exact wpAny_eqBool_int h
      · rw [key_lr] at h; exact SeqAt.EqAt.int_str i t y u _ _ _ _ h
    · rcases keyIs_shape hv with ⟨j, u, rfl, rfl⟩ | ⟨y, u, rfl, rfl⟩
      · rw [key_rl] at h; exact SeqAt.EqAt.str_int x t j u _ _ _ _ h
      · rw [key_rr] at h; exact wpAny_eqBool_str h
  «strs» := fun k x t v h => by
    rcases keyIs_shape h with ⟨i, u, rfl, e⟩ | ⟨y, u, rfl, e⟩
    · exact nomatch e
    · injection e with e1 _
      subst e1
      cases v <;> rfl

end L2

namespace L2
open PySem PySem.Spec PyProof.Rows

/-- a value, without the heap -/
inductive V where
  | non | bl (b : Bool) | int (i : Int) | str (x : Str) | byt (b : Array UInt8) | flt (b : UInt64) | ref (a : Addr) | ty (n : String)
  deriving DecidableEq

def RelV : V → Value → Prop
  | .non, u => u = Value.none
  | .bl b, u => u = Value.bool b
  | .int i, u => ∃ t, u = Value.int i t
  | .str x, u => ∃ t, u = Value.str x t
  | .byt b, u => ∃ t, u = Value.bytes b t
  | .flt b, u => ∃ t, u = Value.float b t
  | .ref a, u => u = Value.ref a
  | .ty n, u => u = Value.type n

abbrev Vals : List V → List Value → Prop := Paired RelV
theorem Vals.length {xs : List V} {us : List Value} (r : Vals xs us) : xs.length = us.length := Paired.length r
theorem Vals.get : ∀ {xs : List V} {us : List Value} {i : Nat} {x : V}, Vals xs us → xs[i]? = some x → ∃ u, us[i]? = some u ∧ RelV x u
  | _, _, _, _, .nil, e => by simp at e
  | _, _, 0, _, .cons r _, e => by simp at e; subst e; exact ⟨_, rfl, r⟩
  | _, _, i + 1, x, .cons _ t, e => by
    obtain ⟨u, h1, h2⟩ := Vals.get (i := i) (x := x) t (by simpa using e)
    exact ⟨u, by simpa using h1, h2⟩
theorem Vals.append : ∀ {xs ys : List V} {us ws : List Value}, Vals xs us → Vals ys ws → Vals (xs ++ ys) (us ++ ws)
  | _, _, _, _, .nil, s => s
  | _, _, _, _, .cons r t, s => .cons r (Vals.append t s)
def RelO : Option V → Option Value → Prop
  | some v, some u => RelV v u
  | none, none => True
  | _, _ => False
def KV {κ : Type} : List (κ × V) → List (κ × Value) → Prop := Paired fun (p : κ × V) (q : κ × Value) => p.1 = q.1 ∧ RelV p.2 q.2

/-- a key of a dict (00_mix): an int or a text -/
def kV : Key → V
  | .inl i => .int i
  | .inr x => .str x

/-- what stands at a tracked address -/
inductive HO where
  /-- a list -/
  | lst (xs : List V)
  /-- a tuple (never changes) -/
  | tup (xs : List V)
  /-- a dict whose keys are ints and texts; one whose keys are tuples of ints and texts (the empty one is both) -/
  | dK (kvs : List (Key × V)) | dT (kvs : List (List Key × V))
  /-- a set of ints: its members, its size -/
  | set (S : Int → Bool) (n : Nat)
  /-- an instance of the class at C, its dict at dx, its attributes -/
  | ins (C dx : Addr) (fs : List (Str × V))
  /-- the dict of the instance at x -/
  | own (x : Addr)
  /-- the dict of an exception -/
  | xd (fs : List (Str × V))
  /-- a bound method, f of x -/
  | met (f x : Addr)
  /-- a range object lo, lo + 1, .. below hi -/
  | rng (lo hi : Int)
  /-- a thing that is known to the object (the script; a dict while a loop walks it): read, never written while it is so -/
  | frz (o : Obj) (u : HO)
  /-- a code object's table -/
  | tbl (ps : Array Value)
  /-- any other thing, by what is true of its one object (a def of one's own: SetO a S n := HO.ext fun h => ..) -/
  | ext (φ : Heap → Prop)

abbrev Hp := Addr → Option HO
def upd (H : Hp) (a : Addr) (o : HO) : Hp := fun b => if b = a then some o else H b
theorem upd_same {H : Hp} {a : Addr} {o : HO} : upd H a o a = some o := by unfold upd; rw [if_pos rfl]
theorem upd_ne {H : Hp} {a b : Addr} {o : HO} (h : b ≠ a) : upd H a o b = H b := by unfold upd; rw [if_neg h]
/-- two objects of different content stand apart -/
theorem ne_of {H : Hp} {a b : Addr} {o u : HO} (h : H a = some o) (h' : H b = some u) (d : o ≠ u) : a ≠ b := by
  intro e; subst e; rw [h] at h'; exact d (Option.some.inj h')
theorem ne_of_none {H : Hp} {a b : Addr} {o : HO} (h : H a = some o) (h' : H b = none) : a ≠ b := by
  intro e; subst e; rw [h] at h'; cases h'

section
variable (P : Program) (w : World)
def ObjOk (H : Hp) (h : Heap) (a : Addr) : HO → Prop
  | .lst xs => xs.length ≤ sizeLine ∧ ∃ (its : List Value) (n : Nat), Vals xs its ∧ h.get? a = some { cls := .type "list", data := .seq its.toArray n }
  | .tup xs => xs.length ≤ sizeLine ∧ ∃ its : List Value, Vals xs its ∧ IsTup h a its.toArray
  | .dK kvs => kvs.length ≤ sizeLine ∧ (a == sysModules) = false ∧ ∃ vs, KV kvs vs ∧ h.DictOf (mixKind P w) a vs
  | .dT kvs => kvs.length ≤ sizeLine ∧ (a == sysModules) = false ∧ ∃ xs : List (List Key × Addr × Value),
      Paired (fun (p : List Key × V) (q : List Key × Addr × Value) => p.1 = q.1 ∧ H q.2.1 = some (.tup (p.1.map kV)) ∧ RelV p.2 q.2.2) kvs xs ∧
      ∃ o es ep, h.get? a = some o ∧ o.ExactDict ∧ o.data = .dict es ep ∧ es.toList = xs.map (entryOfKey (tupleKind (mixKind P w))) ∧ (xs.map (·.1)).Nodup
  | .set S n => h.SetOf (intKind P w) a S n
  | .ins C dx fs => H dx = some (.own a) ∧ fs.length ≤ 1000 ∧ dx ≠ a ∧ h.get? a = some (PySem.W.instObj C dx) ∧
      ∃ mA, h.Ns1 dx mA ∧ (∀ f, RelO (fs.lookup f) (mA f)) ∧ PySem.Within mA (fs.map (·.1))
  | .own _ => ∃ o, h.get? a = some o
  | .xd fs => ∃ mA, h.Ns1 a mA ∧ ∀ f, RelO (fs.lookup f) (mA f)
  | .rng lo hi => ∃ t u v, h.get? a = some { cls := .type "range", data := .fields #[.int lo t, .int hi u, .int 1 v] }
  | .frz o u => h.get? a = some o ∧ ObjOk H h a u
  | .tbl ps => h.get? a = some { cls := .none, data := .fields ps }
  | .met f x => h.get? a = some (PySem.W.methodObj (.ref f) (.ref x))
  | .ext φ => φ h ∧ (∃ o, h.get? a = some o) ∧ ∀ h1 h2 : Heap, φ h1 → (∀ o, h1.get? a = some o → h2.get? a = some o) → φ h2
/-- the abstract heap is held -/
def HOk (H : Hp) (h : Heap) : Prop := ∀ a o, H a = some o → ObjOk P w H h a o
end

section
variable {P : Program} {w : World} {H H' : Hp} {h h' : Heap} {a : Addr} {o : HO}
theorem ObjOk.lt (x : ObjOk P w H h a o) : a < h.objs.size := by
  cases o with
  | lst xs => obtain ⟨_, _, _, _, e⟩ := x; exact Heap.lt_size e
  | tup xs => obtain ⟨_, _, _, p⟩ := x; exact p.lt
  | dK kvs => obtain ⟨_, _, _, _, o, _, _, e, _⟩ := x; exact Heap.lt_size e
  | dT kvs => obtain ⟨_, _, _, _, o, _, _, e, _⟩ := x; exact Heap.lt_size e
  | set S n => obtain ⟨o, _, _, _, e, _⟩ := x; exact Heap.lt_size e
  | ins C dx fs => obtain ⟨_, _, _, e, _⟩ := x; exact Heap.lt_size e
  | own y => obtain ⟨_, e⟩ := x; exact Heap.lt_size e
  | xd fs => obtain ⟨_, ⟨_, _, _, e, _⟩, _⟩ := x; exact Heap.lt_size e
  | rng lo hi => obtain ⟨_, _, _, e⟩ := x; exact Heap.lt_size e
  | frz ob u => obtain ⟨e, _⟩ := x; exact Heap.lt_size e
  | tbl ps => exact Heap.lt_size (show h.get? a = some _ from x)
  | met f y => exact Heap.lt_size (show h.get? a = some _ from x)
  | ext φ => obtain ⟨_, ⟨_, e⟩, _⟩ := x; exact Heap.lt_size e
theorem Paired.mapP {α β : Type} {F G : α → β → Prop} : ∀ {l₁ : List α} {l₂ : List β}, Paired F l₁ l₂ → (∀ a b, F a b → G a b) → Paired G l₁ l₂
  | _, _, .nil, _ => .nil
  | _, _, .cons r t, f => .cons (f _ _ r) (Paired.mapP t f)
/-- what an object's description leans on: its own object, its own dict, the tuples -/
theorem ObjOk.stay (x : ObjOk P w H h a o) (k : ∀ b u, (b = a ∨ H b = some (.own a)) → h.get? b = some u → h'.get? b = some u)
    (ho : ∀ b, H b = some (.own a) → H' b = some (.own a)) (ht : ∀ b xs, H b = some (.tup xs) → H' b = some (.tup xs)) : ObjOk P w H' h' a o := by
  induction o with
  | lst xs => obtain ⟨z, its, n, r, e⟩ := x; exact ⟨z, its, n, r, k _ _ (.inl rfl) e⟩
  | tup xs => obtain ⟨z, its, r, ob, e, c⟩ := x; exact ⟨z, its, r, ob, k _ _ (.inl rfl) e, c⟩
  | dK kvs => obtain ⟨z, y, vs, r, ob, es, ep, e, c⟩ := x; exact ⟨z, y, vs, r, ob, es, ep, k _ _ (.inl rfl) e, c⟩
  | dT kvs =>
    obtain ⟨z, y, xs, r, ob, es, ep, e, c⟩ := x
    exact ⟨z, y, xs, Paired.mapP r fun p q z => ⟨z.1, ht _ _ z.2.1, z.2.2⟩, ob, es, ep, k _ _ (.inl rfl) e, c⟩
  | set S n => obtain ⟨ob, es, ep, t, e, c⟩ := x; exact ⟨ob, es, ep, t, k _ _ (.inl rfl) e, c⟩
  | ins C dx fs =>
    obtain ⟨d, z, ne, e, mA, ⟨od, es, ep, e2, c⟩, r⟩ := x
    exact ⟨ho _ d, z, ne, k _ _ (.inl rfl) e, mA, ⟨od, es, ep, k _ _ (.inr d) e2, c⟩, r⟩
  | own y => obtain ⟨ob, e⟩ := x; exact ⟨ob, k _ _ (.inl rfl) e⟩
  | xd fs => obtain ⟨mA, ⟨od, es, ep, e, c⟩, r⟩ := x; exact ⟨mA, ⟨od, es, ep, k _ _ (.inl rfl) e, c⟩, r⟩
  | rng lo hi => obtain ⟨t, u, v, e⟩ := x; exact ⟨t, u, v, k _ _ (.inl rfl) e⟩
  | frz ob u ih => obtain ⟨e, q⟩ := x; exact ⟨k _ _ (.inl rfl) e, ih q⟩
  | tbl ps =>
    have e : h.get? a = some { cls := .none, data := .fields ps } := x
    show h'.get? a = some { cls := .none, data := .fields ps }
    exact k a _ (.inl rfl) e
  | met f y =>
    have e : h.get? a = some (PySem.W.methodObj (.ref f) (.ref y)) := x
    show h'.get? a = some (PySem.W.methodObj (.ref f) (.ref y))
    exact k a _ (.inl rfl) e
  | ext φ => obtain ⟨p, ⟨o, e⟩, st⟩ := x; exact ⟨st _ _ p fun o q => k _ _ (.inl rfl) q, ⟨o, k _ _ (.inl rfl) e⟩, st⟩
theorem HOk.lt (x : HOk P w H h) (e : H a = some o) : a < h.objs.size := (x a o e).lt
theorem HOk.fresh (x : HOk P w H h) (e : h.objs.size ≤ a) : H a = none := by
  cases q : H a with
  | none => rfl
  | some u => exact absurd (Nat.lt_of_lt_of_le (x.lt q) e) (Nat.lt_irrefl _)
/-- every object of the heap is kept -/
theorem HOk.kept (x : HOk P w H h) (k : ∀ b u, h.get? b = some u → h'.get? b = some u) : HOk P w H h' := fun a o e =>
  (x a o e).stay (fun b u _ q => k b u q) (fun _ q => q) fun _ _ q => q
/-- a new object is laid and tracked -/
theorem HOk.laid (x : HOk P w H h) (k : ∀ b u, h.get? b = some u → h'.get? b = some u) (hp : h.objs.size ≤ a) (new : ObjOk P w (upd H a o) h' a o) : HOk P w (upd H a o) h' := fun b u e => by
  have hn := x.fresh hp
  by_cases hb : b = a
  · subst hb; rw [upd_same] at e; cases e; exact new
  · rw [upd_ne hb] at e
    exact (x b u e).stay (fun c v _ q => k c v q) (fun c q => by rw [upd_ne (ne_of_none q hn)]; exact q) fun c xs q => by rw [upd_ne (ne_of_none q hn)]; exact q
end

/-- what may be read as u: it is u, or a known u -/
def Rd (H : Hp) (a : Addr) (u : HO) : Prop := H a = some u ∨ ∃ o, H a = some (.frz o u)
theorem Rd.ok {P : Program} {w : World} {H : Hp} {h : Heap} {a : Addr} {u : HO} (r : Rd H a u) (x : HOk P w H h) : ObjOk P w H h a u := by
  rcases r with r | ⟨o, r⟩
  · exact x a u r
  · obtain ⟨_, q⟩ := x a _ r
    exact q
/-- what may be written -/
def Mut : Option HO → Prop
  | some (.lst _) => True
  | some (.dK _) => True
  | some (.dT _) => True
  | some (.set _ _) => True
  | some (.ins _ _ _) => True
  | some (.ext _) => True
  | _ => False
section
variable {P : Program} {w : World} {H : Hp} {h h' : Heap} {x e : Addr} {o' : HO}
/-- the object at e is changed: x itself, or the dict of the instance x -/
theorem HOk.write (ok : HOk P w H h) (mu : Mut (H x)) (he : e = x ∨ H e = some (.own x)) (k : ∀ b u, b ≠ e → h.get? b = some u → h'.get? b = some u) (heo : ∃ u, h'.get? e = some u)
    (new : ObjOk P w (upd H x o') h' x o') : HOk P w (upd H x o') h' := fun b u q => by
  have nown : ∀ c y, H c = some (.own y) → c ≠ x := fun c y r z => by subst z; rw [r] at mu; exact mu
  have ntup : ∀ c xs, H c = some (.tup xs) → c ≠ x := fun c xs r z => by subst z; rw [r] at mu; exact mu
  by_cases hb : b = x
  · subst hb; rw [upd_same] at q; cases q; exact new
  · rw [upd_ne hb] at q
    by_cases hbe : b = e
    · have q' : H b = some (.own x) := by
        rcases he with z | z
        · exact absurd (hbe.trans z) hb
        · rw [hbe]; exact z
      rw [q] at q'; cases q'
      obtain ⟨v, hv⟩ := heo
      exact ⟨v, by rw [hbe]; exact hv⟩
    · refine (ok b u q).stay (fun c v hc r => k c v ?_ r) (fun c r => by rw [upd_ne (nown c b r)]; exact r) fun c xs r => by rw [upd_ne (ntup c xs r)]; exact r
      rcases hc with rfl | hc
      · exact hbe
      · rintro rfl
        rcases he with z | z
        · exact nown c b hc z
        · rw [hc] at z; cases z; exact hb rfl
end

/-! ### kept unless tracked; of the frames at fs (the callers') the slots may change (an exception that passes writes there); of the records at ex (iterators) nothing is said -/
structure Un (fs ex : List Addr) (H H' : Hp) (h h' : Heap) : Prop where
  keep : ∀ b o, h.get? b = some o → H b = none → b ∉ fs → b ∉ ex → h'.get? b = some o
  slot : ∀ b o, h.get? b = some o → H b = none → b ∈ fs → b ∉ ex → ∃ sl, h'.get? b = some { o with slots := sl }
  free : ∀ b o, h.get? b = some o → H b = none → b ∉ ex → H' b = none
  there : ∀ b o, h.get? b = some o → b ∉ ex → ∃ o', h'.get? b = some o'
  tups : ∀ b xs, H b = some (.tup xs) → H' b = some (.tup xs)
  frzs : ∀ b o u, H b = some (.frz o u) → H' b = some (.frz o u)
  tbls : ∀ b ps, H b = some (.tbl ps) → ∃ more, H' b = some (.tbl (ps ++ more))
section
variable {fs fs' ex ex' : List Addr} {H H1 H2 : Hp} {h h1 h2 h' : Heap} {a x e : Addr} {o : HO}
theorem Un.any (u : Un fs ex H H1 h h1) {b : Addr} {ob : Obj} (q : h.get? b = some ob) (n : H b = none) (hx : b ∉ ex) : ∃ sl, h1.get? b = some { ob with slots := sl } := by
  by_cases hb : b ∈ fs
  · exact u.slot b ob q n hb hx
  · exact ⟨ob.slots, u.keep b ob q n hb hx⟩
theorem Un.kept (k : ∀ b u, h.get? b = some u → h'.get? b = some u) : Un fs ex H H h h' :=
  ⟨fun b ob q _ _ _ => k b ob q, fun b ob q _ _ _ => ⟨ob.slots, k b ob q⟩, fun _ _ _ n _ => n, fun b ob q _ => ⟨ob, k b ob q⟩, fun _ _ q => q, fun _ _ _ q => q, fun _ ps q => ⟨#[], by rw [q]; simp⟩⟩
theorem Un.refl : Un fs ex H H h h := Un.kept fun _ _ q => q
theorem Un.laid (k : ∀ b u, h.get? b = some u → h'.get? b = some u) (hp : h.objs.size ≤ a) (hn : H a = none) : Un fs ex H (upd H a o) h h' where
  keep := fun b u q _ _ _ => k b u q
  slot := fun b u q _ _ _ => ⟨u.slots, k b u q⟩
  free := fun b u q n _ => by rw [upd_ne (Nat.ne_of_lt (Nat.lt_of_lt_of_le (Heap.lt_size q) hp))]; exact n
  there := fun b u q _ => ⟨u, k b u q⟩
  tups := fun b xs q => by rw [upd_ne (ne_of_none q hn)]; exact q
  frzs := fun b u xs q => by rw [upd_ne (ne_of_none q hn)]; exact q
  tbls := fun b ps q => ⟨#[], by rw [upd_ne (ne_of_none q hn), q]; simp⟩
theorem Un.write (mu : Mut (H x)) (he : e = x ∨ H e = some (.own x)) (k : ∀ b u, b ≠ e → h.get? b = some u → h'.get? b = some u) (heo : ∃ u, h'.get? e = some u) : Un fs ex H (upd H x o) h h' := by
  have hx : ∀ b, H b = none → b ≠ x := fun b n z => by subst z; rw [n] at mu; exact mu
  have hb : ∀ b, H b = none → b ≠ e := fun b n z => by
    subst z
    rcases he with r | r
    · exact hx b n r
    · rw [n] at r; cases r
  have hm : ∀ b u, H b = some u → ¬ Mut (some u) → b ≠ x := fun b u q nm z => by subst z; rw [q] at mu; exact nm mu
  refine ⟨fun b u q n _ _ => k b u (hb b n) q, fun b u q n _ _ => ⟨u.slots, k b u (hb b n) q⟩, fun b u q n _ => by rw [upd_ne (hx b n)]; exact n, fun b u q _ => ?_,
    fun b xs q => by rw [upd_ne (hm b _ q fun z => z)]; exact q, fun b u xs q => by rw [upd_ne (hm b _ q fun z => z)]; exact q, fun b ps q => ⟨#[], by rw [upd_ne (hm b _ q fun z => z), q]; simp⟩⟩
  by_cases hbe : b = e
  · subst hbe; exact heo
  · exact ⟨u, k b u hbe q⟩
end

/-! ### the heap without what is tracked -/
def trk (h : Heap) (H : Hp) : List Addr := (List.range h.objs.size).filter fun a => (H a).isSome
def hidT (h : Heap) (H : Hp) : Heap := PySem.W.hideAll h (trk h H)
theorem hidT_size (h : Heap) (H : Hp) : (hidT h H).objs.size = h.objs.size := PySem.W.hideAll_size _ _
theorem hidT_get {h : Heap} {H : Hp} {b : Addr} {o : Obj} (e : h.get? b = some o) (n : H b = none) : (hidT h H).get? b = some o :=
  PySem.W.hideAll_get _ e fun hm => by
    have q : (H b).isSome = true := (List.mem_filter.mp hm).2
    rw [n] at q; simp at q
theorem of_hidT {h : Heap} {H : Hp} {b : Addr} {o : Obj} (e : (hidT h H).get? b = some o) : h.get? b = some o ∧ H b = none := by
  have e' : h.get? b = some o := PySem.W.of_hideAll (trk h H) e
  refine ⟨e', ?_⟩
  cases q : H b with
  | none => rfl
  | some x =>
    have hm : b ∈ trk h H := List.mem_filter.mpr ⟨List.mem_range.mpr (Heap.lt_size e'), by simp [q]⟩
    have z : (hidT h H).get? b = none := PySem.W.hideAll_none (trk h H) hm
    rw [z] at e; cases e

/-! ### OpenK's ledger, filled with every new object but one -/
end L2

namespace L2
open PySem PySem.Spec PyProof.Rows

/-- the module's facts, over the base: the heap at the law's entry without what is tracked there -/
structure Mod (K : PySem.W.Frag) (mg : Str → Option Value) (base : Heap) : Prop where
  kin : K.In base
  glob : base.Ns mainGlobals mg
  blt : ∃ mb, base.Ns builtinsNs mb ∧ ∀ x : Str, x ≠ "__name__" → mb x = bootBuiltins x
  nolimit : base.NoLimit

/-- the context: a def's body (or a comprehension's block) running. base: fixed through the whole law; s₀, H₀: the entry; outer: the frames whose slots others may change (a def's callers); stack: all frames that run;
   ex: iterators that were made ahead of the entry and are walked here (a comprehension's); fn: the names whose cells were made at the entry (a def: all; a comprehension's block: its own); calm: not within an except suite; pn: pins that every state bears; xe: what is wanted of an exception that leaves the code -/
structure Cx where
  prog : Program
  w : World
  K : PySem.W.Frag
  mg : Str → Option Value
  base : Heap
  A : Around
  N : List Str
  s_0 : Shared
  H_0 : Hp
  env : Env
  outer : List Env
  stack : List Env
  ex : List Addr
  fn : Str → Bool
  calm : Bool
  pn : List (Addr × Obj)
  xe : Value → Shared → Prop
/-- the callers' frames -/
def frs (l : List Env) : List Addr := l.filterMap (·.frame)
abbrev Cx.fs (X : Cx) : List Addr := frs X.outer

def Vis (sc : Scope) (x : Str) : Prop := sc.names.lookup x = some .local ∨ sc.names.lookup x = some .cell ∨ sc.names.lookup x = some .free
def Loc (sc : Scope) (x : Str) : Prop := sc.names.lookup x = some .local ∨ sc.names.lookup x = some .cell
def Look (env : Env) (h : Heap) (m : Str → Option Value) (x : Str) (u : Value) : Prop :=
  (env.kindOf x = some .local ∧ m x = some u) ∨ ((env.kindOf x = some .cell ∨ env.kindOf x = some .free) ∧ ∃ c, env.cells.lookup x = some c ∧ h.IsCell c (some u))

structure Cx.Ok (X : Cx) : Prop where
  mod : Mod X.K X.mg X.base
  kind : X.env.scope.kind = .function
  glob : X.env.globals = mainGlobals
  blt : X.env.builtins = builtinsNs
  above : X.s_0.heap.objs.size ≤ X.env.locals
  inj : ∀ x y c, X.env.cells.lookup x = some c → X.env.cells.lookup y = some c → x = y
  has : ∀ x, (X.env.kindOf x = some .cell ∨ X.env.kindOf x = some .free) → ∃ c, X.env.cells.lookup x = some c
  cab : ∀ x c, X.fn x = true → X.env.cells.lookup x = some c → X.s_0.heap.objs.size ≤ c
  hd : X.calm = true → X.A.handled = none
  frames : X.A.frames = some X.stack
  stk : X.stack = X.outer ∨ (X.stack = X.env :: X.outer ∧ X.env.frame = some X.env.locals)
  exf : ∀ b ∈ X.ex, b ≠ X.env.locals ∧ ∀ x c, X.env.cells.lookup x = some c → c ≠ b
  bs : ∀ b o, X.base.get? b = some o → X.s_0.heap.get? b = some o ∧ X.H_0 b = none
  bsz : X.base.objs.size ≤ X.s_0.heap.objs.size
  noex : ∀ b o, X.base.get? b = some o → b ∉ X.ex
  exfs : ∀ b ∈ X.ex, b ∉ X.fs
  funs : X.s_0.heap.FunFrames X.base X.outer
  frf : ∀ b ∈ X.fs, X.H_0 b = none

structure Inv (X : Cx) (pins : List (Addr × Obj)) (σ : List (Option V)) (H : Hp) (s : Shared) : Prop where
  ok : X.Ok
  os : s.os = X.s_0.os
  bare : AllBare s.gens
  base : Un X.fs X.ex X.H_0 H X.s_0.heap s.heap
  loc : ∃ m, s.heap.Ns X.env.locals m ∧ ∀ (i : Nat) (x : Str) (v : V), X.N[i]? = some x → σ[i]? = some (some v) → Vis X.env.scope x → ∃ u, RelV v u ∧ Look X.env s.heap m x u
  cell : ∀ x c, X.env.cells.lookup x = some c → ∃ v, s.heap.IsCell c v
  free : H X.env.locals = none
  freeC : ∀ x c, X.env.cells.lookup x = some c → H c = none
  pin : ∀ p ∈ X.pn ++ pins, s.heap.get? p.1 = some p.2 ∧ H p.1 = none ∧ p.1 ≠ X.env.locals ∧ p.1 ∉ X.fs ∧ ∀ v, p.2.data ≠ .cell v
  hok : HOk X.prog X.w H s.heap
  len : σ.length = X.N.length

section
variable {X : Cx} {pins : List (Addr × Obj)} {σ : List (Option V)} {H H' : Hp} {s : Shared} {h' : Heap}

theorem Cx.Ok.nofr (ok : X.Ok) {b : Addr} {o : Obj} (e : X.base.get? b = some o) : b ∉ X.fs := fun hb => by
  have := (ok.funs.mem hb).1
  rw [e] at this; cases this
theorem Inv.bs (I : Inv X pins σ H s) : ∀ b o, X.base.get? b = some o → s.heap.get? b = some o ∧ H b = none := fun b o e =>
  ⟨I.base.keep b o (I.ok.bs b o e).1 (I.ok.bs b o e).2 (I.ok.nofr e) (I.ok.noex b o e), I.base.free b o (I.ok.bs b o e).1 (I.ok.bs b o e).2 (I.ok.noex b o e)⟩
theorem Inv.bk (I : Inv X pins σ H s) : ∀ b o, X.base.get? b = some o → s.heap.get? b = some o := fun b o e => (I.bs b o e).1
theorem Inv.mod (I : Inv X pins σ H s) : Mod X.K X.mg X.base := I.ok.mod
theorem Inv.kIn (I : Inv X pins σ H s) : X.K.In s.heap := I.ok.mod.kin.keeps I.bk
theorem Inv.lt (I : Inv X pins σ H s) : X.env.locals < s.heap.objs.size := let ⟨_, hn, _⟩ := I.loc; hn.lt
theorem Inv.sz (I : Inv X pins σ H s) : X.s_0.heap.objs.size ≤ s.heap.objs.size := Nat.le_trans I.ok.above (Nat.le_of_lt I.lt)
theorem Inv.nofs (I : Inv X pins σ H s) {a : Addr} (h : s.heap.objs.size ≤ a) : a ∉ X.fs := fun hb => by
  obtain ⟨_, o, ho, _⟩ := I.ok.funs.mem hb
  exact absurd (Nat.lt_of_lt_of_le (Heap.lt_size ho) (Nat.le_trans I.sz h)) (Nat.lt_irrefl _)
theorem Inv.cne (I : Inv X pins σ H s) : ∀ x c, X.env.cells.lookup x = some c → c ≠ X.env.locals := fun x c e z => by
  obtain ⟨v, o, ho, hd⟩ := I.cell x c e
  obtain ⟨m, ⟨o', es, ep, ho', hd', _⟩, _⟩ := I.loc
  rw [z, ho'] at ho; cases ho; rw [hd'] at hd; cases hd
theorem Inv.funs (I : Inv X pins σ H s) : s.heap.FunFrames X.base X.outer := by
  have all : ∀ (l : List Env), (∀ b ∈ frs l, b ∈ X.fs) → X.s_0.heap.FunFrames X.base l → s.heap.FunFrames X.base l := by
    intro l
    induction l with
    | nil => intro _ _; trivial
    | cons env r ih =>
      intro hs hl
      obtain ⟨hk, ⟨L, o, hf, hn, ho, hd⟩, hr⟩ := hl
      have hL : L ∈ X.fs := hs L (by unfold frs; rw [List.filterMap_cons, hf]; exact List.mem_cons_self)
      obtain ⟨sl, e⟩ := I.base.slot L o ho (I.ok.frf L hL) hL fun z => I.ok.exfs L z hL
      exact ⟨hk, ⟨L, _, hf, hn, e, hd⟩, ih (fun b hb => hs b (by unfold frs; rw [List.filterMap_cons, hf]; exact List.mem_cons_of_mem _ hb)) hr⟩
  exact all X.outer (fun _ hb => hb) I.ok.funs

/-- the frames that run, for a call -/
theorem Inv.stack (I : Inv X pins σ H s) : s.heap.FunFrames X.base X.stack := by
  rcases I.ok.stk with e | ⟨e, hf⟩
  · rw [e]; exact I.funs
  · rw [e]
    obtain ⟨m, hn, _⟩ := I.loc
    refine .cons (by rw [I.ok.kind]; decide) hf hn ?_ I.funs
    exact Heap.get?_none_of_le (Nat.le_trans I.ok.bsz I.ok.above)
theorem Inv.stkSub (I : Inv X pins σ H s) : ∀ b ∈ frs X.stack, b ∈ X.env.locals :: X.fs := fun b hb => by
  rcases I.ok.stk with e | ⟨e, hf⟩
  · rw [e] at hb; exact List.mem_cons_of_mem _ hb
  · rw [e] at hb
    unfold frs at hb
    rw [List.filterMap_cons, hf] at hb
    exact hb
theorem Inv.stkFree (I : Inv X pins σ H s) : ∀ b ∈ frs X.stack, H b = none := fun b hb => by
  rcases List.mem_cons.mp (I.stkSub b hb) with e | hb
  · rw [e]; exact I.free
  · obtain ⟨_, o, ho, _⟩ := I.ok.funs.mem hb
    exact I.base.free b o ho (I.ok.frf b hb) fun z => I.ok.exfs b z hb

/-- THE STEP: the untracked objects but the frame and the records at ch are kept (the callers' frames up to slots), the frame's map is kept, the new abstract heap is held -/
theorem Inv.step {g' : Array GenState} {t' : Nat} {d' : Drawn} {ch : List Addr} (I : Inv X pins σ H s)
    (hch : ∀ b ∈ ch, (b ∈ X.ex ∨ X.s_0.heap.objs.size ≤ b) ∧ b ≠ X.env.locals ∧ (∀ x c, X.env.cells.lookup x = some c → c ≠ b) ∧ ∀ p ∈ X.pn ++ pins, p.1 ≠ b)
    (keep : ∀ b o, b ≠ X.env.locals → b ∉ X.fs → b ∉ ch → s.heap.get? b = some o → H b = none → h'.get? b = some o)
    (slot : ∀ b o, b ≠ X.env.locals → b ∈ X.fs → b ∉ ch → s.heap.get? b = some o → H b = none → ∃ sl, h'.get? b = some { o with slots := sl }) (free : ∀ b o, b ∉ ch → s.heap.get? b = some o → H b = none → H' b = none)
    (there : ∀ b o, b ∉ ch → s.heap.get? b = some o → ∃ o', h'.get? b = some o')
    (tups : ∀ b xs, H b = some (.tup xs) → H' b = some (.tup xs)) (frzs : ∀ b o u, H b = some (.frz o u) → H' b = some (.frz o u)) (tbls : ∀ b ps, H b = some (.tbl ps) → ∃ more, H' b = some (.tbl (ps ++ more)))
    (ns : ∀ m, s.heap.Ns X.env.locals m → h'.Ns X.env.locals m) (hok : HOk X.prog X.w H' h') (hg : AllBare g') :
    Inv X pins σ H' { s with heap := h', gens := g', drawn := d', toks := t' } := by
  have neL : ∀ b o, X.s_0.heap.get? b = some o → b ≠ X.env.locals := fun b o e => Nat.ne_of_lt (Nat.lt_of_lt_of_le (Heap.lt_size e) I.ok.above)
  have neC : ∀ b o, X.s_0.heap.get? b = some o → b ∉ X.ex → b ∉ ch := fun b o e hx hb => by
    rcases (hch b hb).1 with z | z
    · exact hx z
    · exact absurd (Nat.lt_of_lt_of_le (Heap.lt_size e) z) (Nat.lt_irrefl _)
  have cellK : ∀ x c, X.env.cells.lookup x = some c → ∀ v, s.heap.IsCell c v → h'.IsCell c v := fun x c e v ⟨o, ho, hd⟩ => by
    have nch : c ∉ ch := fun z => (hch c z).2.2.1 x c e rfl
    by_cases hc : c ∈ X.fs
    · obtain ⟨sl, q⟩ := slot c o (I.cne x c e) hc nch ho (I.freeC x c e)
      exact ⟨_, q, hd⟩
    · exact ⟨o, keep c o (I.cne x c e) hc nch ho (I.freeC x c e), hd⟩
  refine ⟨I.ok, I.os, hg, ⟨fun b o e n hb hx => ?_, fun b o e n hb hx => ?_, fun b o e n hx => ?_, fun b o e hx => ?_, fun b xs e => tups b xs (I.base.tups b xs e), fun b o xs e => frzs b o xs (I.base.frzs b o xs e), fun b ps e => ?_⟩, ?_, fun x c e => ?_, ?_, fun x c e => ?_, fun p hp => ?_, hok, I.len⟩
  · exact keep b o (neL b o e) hb (neC b o e hx) (I.base.keep b o e n hb hx) (I.base.free b o e n hx)
  · obtain ⟨sl, e1⟩ := I.base.slot b o e n hb hx
    obtain ⟨sl', e2⟩ := slot b _ (neL b o e) hb (neC b o e hx) e1 (I.base.free b o e n hx)
    exact ⟨sl', e2⟩
  · obtain ⟨o', e1⟩ := I.base.there b o e hx
    exact free b o' (neC b o e hx) e1 (I.base.free b o e n hx)
  · obtain ⟨o', e1⟩ := I.base.there b o e hx
    exact there b o' (neC b o e hx) e1
  · obtain ⟨m1, e1⟩ := I.base.tbls b ps e
    obtain ⟨m2, e2⟩ := tbls b _ e1
    exact ⟨m1 ++ m2, by rw [e2, Array.append_assoc]⟩
  · obtain ⟨m, hn, hl⟩ := I.loc
    refine ⟨m, ns m hn, fun i x v e1 e2 e3 => ?_⟩
    obtain ⟨u, r, l⟩ := hl i x v e1 e2 e3
    refine ⟨u, r, ?_⟩
    rcases l with l | ⟨k, c, e, z⟩
    · exact .inl l
    · exact .inr ⟨k, c, e, cellK x c e _ z⟩
  · obtain ⟨v, z⟩ := I.cell x c e
    exact ⟨v, cellK x c e v z⟩
  · obtain ⟨m, ⟨o, _, _, ho, _⟩, _⟩ := I.loc
    exact free _ o (fun z => (hch _ z).2.1 rfl) ho I.free
  · obtain ⟨v, o, ho, hd⟩ := I.cell x c e
    exact free c o (fun z => (hch c z).2.2.1 x c e rfl) ho (I.freeC x c e)
  · obtain ⟨e, n, ne, nf, d⟩ := I.pin p hp
    have nch : p.1 ∉ ch := fun z => (hch p.1 z).2.2.2 p hp rfl
    exact ⟨keep p.1 p.2 ne nf nch e n, free p.1 p.2 nch e n, ne, nf, d⟩
/-- .. where the frame's own object is kept too -/
theorem Inv.un {t' : Nat} (I : Inv X pins σ H s) (u : Un X.fs [] H H' s.heap h') (hok : HOk X.prog X.w H' h') : Inv X pins σ H' { s with heap := h', toks := t' } := by
  obtain ⟨m, ⟨o, es, ep, ho, r⟩, _⟩ := id I.loc
  obtain ⟨sl, hL⟩ := u.any ho I.free (by simp)
  exact I.step (g' := s.gens) (d' := s.drawn) (ch := []) (fun _ z => nomatch z) (fun b o _ hb _ e n => u.keep b o e n hb (by simp)) (fun b o _ hb _ e n => u.slot b o e n hb (by simp)) (fun b o _ e n => u.free b o e n (by simp)) (fun b o _ e => u.there b o e (by simp)) u.tups u.frzs u.tbls (fun m' hm => by
    obtain ⟨o', es', ep', ho', r'⟩ := hm
    rw [ho] at ho'; cases ho'
    exact ⟨_, es', ep', hL, r'⟩) hok I.bare
/-- behind a call (or a comprehension's block): the slots of this frame may have changed too, the records at ch may have turned -/
theorem Inv.call {g' : Array GenState} {t' : Nat} {d' : Drawn} {ch : List Addr} (I : Inv X pins σ H s) (u : Un (frs X.stack) ch H H' s.heap h') (hok : HOk X.prog X.w H' h') (hg : AllBare g')
    (hch : ∀ b ∈ ch, (b ∈ X.ex ∨ X.s_0.heap.objs.size ≤ b) ∧ b ≠ X.env.locals ∧ (∀ x c, X.env.cells.lookup x = some c → c ≠ b) ∧ ∀ p ∈ X.pn ++ pins, p.1 ≠ b) :
    Inv X pins σ H' { s with heap := h', gens := g', drawn := d', toks := t' } := by
  obtain ⟨m, ⟨o, es, ep, ho, r⟩, _⟩ := id I.loc
  obtain ⟨sl, hL⟩ := u.any ho I.free fun z => (hch _ z).2.1 rfl
  exact I.step (ch := ch) hch (fun b o hL hb hc e n => u.keep b o e n (fun z => (List.mem_cons.mp (I.stkSub b z)).elim hL hb) hc) (fun b o _ _ hc e n => u.any e n hc) (fun b o hc e n => u.free b o e n hc) (fun b o hc e => u.there b o e hc) u.tups u.frzs u.tbls (fun m' hm => by
    obtain ⟨o', es', ep', ho', r'⟩ := hm
    rw [ho] at ho'; cases ho'
    exact ⟨_, es', ep', hL, r'⟩) hok hg
/-- an untracked record of ours (an iterator) has turned -/
theorem Inv.turned {t' : Nat} {it : Addr} (I : Inv X pins σ H s) (k : ∀ b o, b ≠ it → s.heap.get? b = some o → h'.get? b = some o) (hn : H it = none) (hL : it ≠ X.env.locals)
    (h1 : it ∈ X.ex ∨ X.s_0.heap.objs.size ≤ it) (h2 : ∀ x c, X.env.cells.lookup x = some c → c ≠ it) (h3 : ∀ p ∈ X.pn ++ pins, p.1 ≠ it) : Inv X pins σ H { s with heap := h', toks := t' } := by
  have nit : ∀ b u, H b = some u → b ≠ it := fun b u e z => by rw [z, hn] at e; cases e
  refine I.step (g' := s.gens) (d' := s.drawn) (ch := [it]) (fun b hb => ?_) (fun b o _ _ hc e _ => k b o (fun z => hc (by simp [z])) e) (fun b o _ _ hc e _ => ⟨o.slots, k b o (fun z => hc (by simp [z])) e⟩) (fun _ _ _ _ n => n)
    (fun b o hc e => ⟨o, k b o (fun z => hc (by simp [z])) e⟩) (fun _ _ e => e) (fun _ _ _ e => e) (fun b ps e => ⟨#[], by rw [e]; simp⟩) (fun m hm => ?_) (fun b u e => ?_) I.bare
  · have e : b = it := by simpa using hb
    subst e
    exact ⟨h1, hL, h2, h3⟩
  · obtain ⟨o, es, ep, ho, r⟩ := hm
    exact ⟨o, es, ep, k _ o (Ne.symm hL) ho, r⟩
  · refine (I.hok b u e).stay (fun c v hc q => k c v ?_ q) (fun _ q => q) fun _ _ q => q
    rcases hc with z | z
    · rw [z]; exact nit b u e
    · exact nit c _ z
theorem Inv.tok (I : Inv X pins σ H s) (t : Nat) : Inv X pins σ H { s with toks := t } := I.un (h' := s.heap) (t' := t) Un.refl I.hok
/-- all objects kept -/
theorem Inv.kept {t' : Nat} (I : Inv X pins σ H s) (k : ∀ b u, s.heap.get? b = some u → h'.get? b = some u) : Inv X pins σ H { s with heap := h', toks := t' } := I.un (Un.kept k) (I.hok.kept k)
/-- a new object laid and tracked -/
theorem Inv.laid {a : Addr} {o : HO} {t' : Nat} (I : Inv X pins σ H s) (k : ∀ b u, s.heap.get? b = some u → h'.get? b = some u) (hp : s.heap.objs.size ≤ a) (new : ObjOk X.prog X.w (upd H a o) h' a o) :
    Inv X pins σ (upd H a o) { s with heap := h', toks := t' } := I.un (Un.laid k hp (I.hok.fresh hp)) (I.hok.laid k hp new)
/-- an object written -/
theorem Inv.write {x e : Addr} {o : HO} {t' : Nat} (I : Inv X pins σ H s) (mu : Mut (H x)) (he : e = x ∨ H e = some (.own x)) (k : ∀ b u, b ≠ e → s.heap.get? b = some u → h'.get? b = some u) (heo : ∃ u, h'.get? e = some u)
    (new : ObjOk X.prog X.w (upd H x o) h' x o) : Inv X pins σ (upd H x o) { s with heap := h', toks := t' } := I.un (Un.write mu he k heo) (I.hok.write mu he k heo new)
/-- forgetting slots, pins -/
theorem Inv.weak {σ' : List (Option V)} (I : Inv X pins σ H s) (hl : σ'.length = σ.length) (w : ∀ (i : Nat) v, σ'[i]? = some (some v) → σ[i]? = some (some v)) : Inv X pins σ' H s :=
  ⟨I.ok, I.os, I.bare, I.base, let ⟨m, hn, hl'⟩ := I.loc; ⟨m, hn, fun i x v e1 e2 e3 => hl' i x v e1 (w i v e2) e3⟩, I.cell, I.free, I.freeC, I.pin, I.hok, hl.trans I.len⟩
theorem Inv.pins_of {pins' : List (Addr × Obj)} (I : Inv X pins σ H s) (h : ∀ p ∈ pins', s.heap.get? p.1 = some p.2 ∧ H p.1 = none ∧ p.1 ≠ X.env.locals ∧ p.1 ∉ X.fs ∧ ∀ v, p.2.data ≠ .cell v) : Inv X pins' σ H s :=
  ⟨I.ok, I.os, I.bare, I.base, I.loc, I.cell, I.free, I.freeC, fun p hp => (List.mem_append.mp hp).elim (fun z => I.pin p (List.mem_append_left _ z)) (h p), I.hok, I.len⟩

theorem nodup_ix {N : List Str} (hN : N.Nodup) {i j : Nat} {x : Str} (a : N[i]? = some x) (b : N[j]? = some x) : i = j := by
  obtain ⟨h1, e1⟩ := List.getElem?_eq_some_iff.mp a
  obtain ⟨h2, e2⟩ := List.getElem?_eq_some_iff.mp b
  exact (List.getElem_inj hN).mp (e1.trans e2.symm)

/-- a name is stored; what changed -/
theorem store_ok2 {M : Model} {A : Around} {E : Value → Shared → Prop} {i : Nat} {x : Str} {v : V} {u : Value} {Q : Unit → Shared → Prop} (I : Inv X pins σ H s) (hN : X.N.Nodup) (hi : X.N[i]? = some x) (hx : Loc X.env.scope x) (r : RelV v u)
    (h : ∀ s', Inv X pins (σ.set i (some v)) H s' → (∃ a, Heap.SameBut a s.heap s'.heap ∧ (a = X.env.locals ∨ X.env.cells.lookup x = some a)) → Q () s') (hf : X.fn x = true ∨ X.env.scope.names.lookup x = some .local := by first | exact .inl rfl | exact .inr rfl | assumption) : wpAny M A (storeName X.env x u) Q E s := by
  obtain ⟨m, hn, hl⟩ := id I.loc
  have hcls : (X.env.scope.kind == .class || (X.env.scope.kind == .module && X.env.locals != X.env.globals)) = false := by rw [I.ok.kind]; rfl
  have hiσ : i < σ.length := by rw [I.len]; exact (List.getElem?_eq_some_iff.mp hi).1
  have cne := I.cne
  have tracked : ∀ {a : Addr} {h' : Heap}, (∃ o, s.heap.get? a = some o ∧ H a = none) → Heap.SameBut a s.heap h' → HOk X.prog X.w H h' := fun {a h'} ha hs b ob e => by
    obtain ⟨_, _, hfree⟩ := ha
    refine (I.hok b ob e).stay (fun c w' hc q => (hs.2 c ?_).trans q) (fun _ q => q) fun _ _ q => q
    rintro rfl
    rcases hc with rfl | hc
    · rw [hfree] at e; cases e
    · rw [hfree] at hc; cases hc
  rcases hx with hk | hk
  · refine wpAny_storeName_local hk hn (fun h' hn' hs => ?_) hcls
    obtain ⟨oL, _, _, hoL, _⟩ := id hn
    refine h _ ⟨I.ok, I.os, I.bare, ⟨fun b o e n hb hx => ?_, fun b o e n hb hx => ?_, I.base.free, fun b o e hx => ?_, I.base.tups, I.base.frzs, I.base.tbls⟩, ⟨_, hn', fun j y v' e1 e2 e3 => ?_⟩, fun y c e => ?_, I.free, I.freeC, fun p hp => ?_, tracked ⟨oL, hoL, I.free⟩ hs, by simpa using I.len⟩ ⟨_, hs, .inl rfl⟩
    · exact (hs.2 b (Nat.ne_of_lt (Nat.lt_of_lt_of_le (Heap.lt_size e) I.ok.above))).trans (I.base.keep b o e n hb hx)
    · obtain ⟨sl, e1⟩ := I.base.slot b o e n hb hx
      exact ⟨sl, (hs.2 b (Nat.ne_of_lt (Nat.lt_of_lt_of_le (Heap.lt_size e) I.ok.above))).trans e1⟩
    · obtain ⟨o', e1⟩ := I.base.there b o e hx
      exact ⟨o', (hs.2 b (Nat.ne_of_lt (Nat.lt_of_lt_of_le (Heap.lt_size e) I.ok.above))).trans e1⟩
    · by_cases hj : j = i
      · subst hj
        rw [hi] at e1; cases e1
        rw [List.getElem?_set_self hiσ] at e2
        cases e2
        exact ⟨u, r, .inl ⟨hk, by simp⟩⟩
      · rw [List.getElem?_set_ne (Ne.symm hj)] at e2
        obtain ⟨u', r', q⟩ := hl j y v' e1 e2 e3
        refine ⟨u', r', ?_⟩
        rcases q with ⟨k, e⟩ | ⟨k, c, e, z⟩
        · refine .inl ⟨k, ?_⟩
          have : y ≠ x := fun e => hj (nodup_ix hN e1 (e ▸ hi))
          simp [this, e]
        · exact .inr ⟨k, c, e, z.sameBut hs (cne y c e)⟩
    · obtain ⟨w', z⟩ := I.cell y c e
      exact ⟨w', z.sameBut hs (cne y c e)⟩
    · obtain ⟨e, n, ne, nf, d⟩ := I.pin p hp
      exact ⟨(hs.2 p.1 ne).trans e, n, ne, nf, d⟩
  · have hfn : X.fn x = true := by
      rcases hf with z | z
      · exact z
      · rw [z] at hk; cases hk
    obtain ⟨c, hc⟩ := I.ok.has x (.inl hk)
    obtain ⟨w', z⟩ := I.cell x c hc
    refine wpAny_storeName_cell I.ok.kind hk hc z (fun h' hc' hs => ?_)
    obtain ⟨oc, hoc, hocd⟩ := id z
    refine h { s with heap := h' } ⟨I.ok, I.os, I.bare, ⟨fun b o e n hb hx => ?_, fun b o e n hb hx => ?_, I.base.free, fun b o e hx => ?_, I.base.tups, I.base.frzs, I.base.tbls⟩, ⟨m, hn.sameBut hs (Ne.symm (cne x c hc)), fun j y v' e1 e2 e3 => ?_⟩, fun y c' e => ?_, I.free, I.freeC, fun p hp => ?_, tracked ⟨oc, hoc, I.freeC x c hc⟩ hs, by simpa using I.len⟩ ⟨c, hs, .inr hc⟩
    · exact (hs.2 b (Nat.ne_of_lt (Nat.lt_of_lt_of_le (Heap.lt_size e) (I.ok.cab x c hfn hc)))).trans (I.base.keep b o e n hb hx)
    · obtain ⟨sl, e1⟩ := I.base.slot b o e n hb hx
      exact ⟨sl, (hs.2 b (Nat.ne_of_lt (Nat.lt_of_lt_of_le (Heap.lt_size e) (I.ok.cab x c hfn hc)))).trans e1⟩
    · obtain ⟨o', e1⟩ := I.base.there b o e hx
      exact ⟨o', (hs.2 b (Nat.ne_of_lt (Nat.lt_of_lt_of_le (Heap.lt_size e) (I.ok.cab x c hfn hc)))).trans e1⟩
    · by_cases hj : j = i
      · subst hj
        rw [hi] at e1; cases e1
        rw [List.getElem?_set_self hiσ] at e2
        cases e2
        exact ⟨u, r, .inr ⟨.inl hk, c, hc, hc'⟩⟩
      · rw [List.getElem?_set_ne (Ne.symm hj)] at e2
        obtain ⟨u', r', q⟩ := hl j y v' e1 e2 e3
        refine ⟨u', r', ?_⟩
        rcases q with q | ⟨k, c', e, z'⟩
        · exact .inl q
        · refine .inr ⟨k, c', e, z'.sameBut hs ?_⟩
          rintro rfl
          exact hj (nodup_ix hN e1 (I.ok.inj _ _ _ e hc ▸ hi))
    · by_cases hcc : c' = c
      · subst hcc; exact ⟨_, hc'⟩
      · obtain ⟨w2, z2⟩ := I.cell y c' e
        exact ⟨w2, z2.sameBut hs hcc⟩
    · obtain ⟨e, n, ne, nf, d⟩ := I.pin p hp
      refine ⟨(hs.2 p.1 ?_).trans e, n, ne, nf, d⟩
      intro q
      rw [q, hoc] at e
      have q' : oc = p.2 := Option.some.inj e
      exact d w' (by rw [← q']; exact hocd)
theorem store_ok {M : Model} {A : Around} {E : Value → Shared → Prop} {i : Nat} {x : Str} {v : V} {u : Value} {Q : Unit → Shared → Prop} (I : Inv X pins σ H s) (hN : X.N.Nodup) (hi : X.N[i]? = some x) (hx : Loc X.env.scope x) (r : RelV v u)
    (h : ∀ s', Inv X pins (σ.set i (some v)) H s' → Q () s') (hf : X.fn x = true ∨ X.env.scope.names.lookup x = some .local := by first | exact .inl rfl | exact .inr rfl | assumption) : wpAny M A (storeName X.env x u) Q E s :=
  store_ok2 I hN hi hx r (fun s' I' _ => h s' I') hf
/-- behind a call or a block, the state as it is -/
theorem Inv.call' {s' : Shared} {ch : List Addr} (I : Inv X pins σ H s) (ho : s'.os = s.os) (u : Un (frs X.stack) ch H H' s.heap s'.heap) (hok : HOk X.prog X.w H' s'.heap) (hg : AllBare s'.gens)
    (hch : ∀ b ∈ ch, (b ∈ X.ex ∨ X.s_0.heap.objs.size ≤ b) ∧ b ≠ X.env.locals ∧ (∀ x c, X.env.cells.lookup x = some c → c ≠ b) ∧ ∀ p ∈ X.pn ++ pins, p.1 ≠ b) : Inv X pins σ H' s' := by
  obtain ⟨h', g', d', t', o'⟩ := s'
  have e : o' = s.os := ho
  subst e
  exact I.call (g' := g') (t' := t') (d' := d') u hok hg hch
end

/-! ### the judgements -/
/-- an exception: its class, its own dict's address (where it has one), the abstract heap behind it -/
abbrev XK := Value → Option Addr → Hp → Prop
abbrev St := List (Option V)
abbrev VK := V → Hp → Prop
/-- an expression's reading; a test's; an argument list's -/
abbrev TE := St → Hp → VK → Prop
abbrev TT := St → Hp → (Bool → Hp → Prop) → Prop
abbrev TA := St → Hp → (List V → Hp → Prop) → Prop
/-- what is wanted behind a statement -/
structure Ends where
  nx : St → Hp → Prop
  rt : VK
  bk : St → Hp → Prop := fun _ _ => False
  ct : St → Hp → Prop := fun _ _ => False
abbrev TS := Ends → St → Hp → Prop

def EP (X : Cx) (pins : List (Addr × Obj)) (σ : St) (Q : VK) (u : Value) (s' : Shared) : Prop := ∃ v H', Inv X pins σ H' s' ∧ RelV v u ∧ Q v H'
def TP (X : Cx) (pins : List (Addr × Obj)) (σ : St) (Q : Bool → Hp → Prop) (b : Bool) (s' : Shared) : Prop := ∃ H', Inv X pins σ H' s' ∧ Q b H'
def AP (X : Cx) (pins : List (Addr × Obj)) (σ : St) (Q : List V → Hp → Prop) (us : List Value) (s' : Shared) : Prop := ∃ vs H', Inv X pins σ H' s' ∧ Vals vs us ∧ Q vs H'
def SP (X : Cx) (pins : List (Addr × Obj)) (D : Ends) (f : Flow) (s' : Shared) : Prop :=
  match f with
  | .next => ∃ σ' H', Inv X pins σ' H' s' ∧ D.nx σ' H'
  | .brk => ∃ σ' H', Inv X pins σ' H' s' ∧ D.bk σ' H'
  | .cont => ∃ σ' H', Inv X pins σ' H' s' ∧ D.ct σ' H'
  | .ret u => ∃ v σ' H', Inv X pins σ' H' s' ∧ RelV v u ∧ D.rt v H'

def PE (X : Cx) (e : Expr) (t : TE) : Prop :=
  ∀ (pins : List (Addr × Obj)) (s : Shared) (σ : St) (H : Hp) (Q : VK), Inv X pins σ H s → t σ H Q → wpAny (model X.prog X.w) X.A (eval e X.env) (EP X pins σ Q) X.xe s
def PT (X : Cx) (e : Expr) (t : TT) : Prop :=
  ∀ (pins : List (Addr × Obj)) (s : Shared) (σ : St) (H : Hp) (Q : Bool → Hp → Prop), Inv X pins σ H s → t σ H Q → wpAny (model X.prog X.w) X.A (isTrue e X.env (eval e X.env)) (TP X pins σ Q) X.xe s
/-- a test whatever its 'whole' is (and, or) -/
def PW (X : Cx) (e : Expr) (t : TT) : Prop :=
  ∀ (whole : Sem Value) (pins : List (Addr × Obj)) (s : Shared) (σ : St) (H : Hp) (Q : Bool → Hp → Prop), Inv X pins σ H s → t σ H Q → wpAny (model X.prog X.w) X.A (isTrue e X.env whole) (TP X pins σ Q) X.xe s
theorem PW.pt {X : Cx} {e : Expr} {t : TT} (h : PW X e t) : PT X e t := h _
/-- an argument list (no star), from the left -/
def PA (X : Cx) (es : List Expr) (t : TA) : Prop :=
  ∀ (pos : Pos) (pins : List (Addr × Obj)) (s : Shared) (σ : St) (H : Hp) (Q : List V → Hp → Prop), Inv X pins σ H s → t σ H Q → wpAny (model X.prog X.w) X.A (spliced (backTo pos (starEach es X.env))) (AP X pins σ Q) X.xe s
def PS (X : Cx) (st : Stmt) (t : TS) : Prop :=
  ∀ (pins : List (Addr × Obj)) (s : Shared) (σ : St) (H : Hp) (D : Ends), Inv X pins σ H s → t D σ H → wpAny (model X.prog X.w) X.A (exec st X.env) (SP X pins D) X.xe s
def PSs (X : Cx) (st : List Stmt) (t : TS) : Prop :=
  ∀ (pins : List (Addr × Obj)) (s : Shared) (σ : St) (H : Hp) (D : Ends), Inv X pins σ H s → t D σ H → wpAny (model X.prog X.w) X.A (execs st X.env) (SP X pins D) X.xe s
/-- weaken the end -/
theorem thn {α : Type} {t : Sem α} {Q Q' : α → Shared → Prop} {M : Model} {A : Around} {E : Value → Shared → Prop} {s : Shared} (h : wpAny M A t Q E s) (hQ : ∀ a s, Q a s → Q' a s) : wpAny M A t Q' E s := wpAny_mono h hQ fun _ _ x => x
end L2

namespace L2
open PySem PySem.Spec PyProof.Rows
section
variable {X : Cx}

/-- two expressions in a row -/
theorem bin {a b : Expr} {ta tb : TE} (ha : PE X a ta) (hb : PE X b tb) {pins : List (Addr × Obj)} {s : Shared} {σ : St} {H : Hp} {R : V → V → Hp → Prop} (I : Inv X pins σ H s) (h : ta σ H fun x H1 => tb σ H1 fun y H2 => R x y H2)
    {α : Type} {Q : α → Shared → Prop} {f : Value → Value → Sem α}
    (hf : ∀ v u s2 x y H2, Inv X pins σ H2 s2 → RelV x v → RelV y u → R x y H2 → wpAny (model X.prog X.w) X.A (f v u) Q X.xe s2) :
    wpAny (model X.prog X.w) X.A (eval a X.env) (fun v s₁ => wpAny (model X.prog X.w) X.A (eval b X.env) (fun u s₂ => wpAny (model X.prog X.w) X.A (f v u) Q X.xe s₂) X.xe s₁) X.xe s := by
  refine thn (ha pins s σ H _ I h) fun v s1 ⟨x, H1, I1, r1, q1⟩ => ?_
  refine thn (hb pins s1 σ H1 _ I1 q1) fun u s2 ⟨y, H2, I2, r2, q2⟩ => ?_
  exact hf v u s2 x y H2 I2 r1 r2 q2

/-! ### names and constants -/
def tVar (i : Nat) : TE := fun σ H Q => ∃ v, σ[i]? = some (some v) ∧ Q v H
def tC (v : V) : TE := fun _ H Q => Q v H
theorem pe_var {i : Nat} {x : Str} {pos : Pos} (hN : X.N[i]? = some x) (hv : Vis X.env.scope x) (hd : (x == ("__debug__" : Str)) = false := by decide) (hcd : (x == ("__classdict__" : Str)) = false := by decide) : PE X (.Name x pos) (tVar i) := by
  intro pins s σ H Q I h
  obtain ⟨v, e, h⟩ := h
  obtain ⟨m, hn, hl⟩ := I.loc
  obtain ⟨u, r, l⟩ := hl i x v hN e hv
  have fin : EP X pins σ Q u s := ⟨v, H, I, r, h⟩
  rcases l with ⟨hk, hm⟩ | ⟨hk, c, hc, hcell⟩
  · exact wpAny_Name (wpAny_loadName_local I.ok.kind hk hn hm fin) hd
  · rcases hk with hk | hk
    · exact wpAny_Name (wpAny_loadName_cell I.ok.kind hk hc hcell fin) hd
    · exact wpAny_Name (wpAny_loadName_free I.ok.kind hk hc hcell fin hcd) hd
theorem pe_int {i j pos} : PE X (.Constant (.int i) j pos) (tC (.int i)) := fun _ _ _ H _ I h => wpAny_Constant_int ⟨.int i, H, I.tok _, ⟨_, rfl⟩, h⟩
theorem pe_bl {b j pos} : PE X (.Constant (.bool b) j pos) (tC (.bl b)) := fun _ _ _ H _ I h => Constant_bool ⟨.bl b, H, I, rfl, h⟩
theorem pe_non {j pos} : PE X (.Constant .none j pos) (tC .non) := fun _ _ _ H _ I h => Constant_none ⟨.non, H, I, rfl, h⟩
theorem pe_str {x j pos} : PE X (.Constant (.str x) j pos) (tC (.str x)) := fun _ _ _ H _ I h => Calls.Constant_str ⟨.str x, H, I.tok _, ⟨_, rfl⟩, h⟩

/-- a global name of the def -/
def Gl (X : Cx) (x : Str) : Prop := X.env.kindOf x = some .globalImplicit
theorem ld_glob {E : Value → Shared → Prop} {pins : List (Addr × Obj)} {s : Shared} {σ : St} {H : Hp} {x : Str} {u : Value} {pos : Pos} {Q : Value → Shared → Prop} (I : Inv X pins σ H s) (hg : Gl X x) (hm : X.mg x = some u) (h : Q u s)
    (hd : (x == ("__debug__" : Str)) = false := by decide) : wpAny (model X.prog X.w) X.A (eval (.Name x pos) X.env) Q E s :=
  Calls.Name_function_global I.ok.kind hg (Calls.loadGlobal_global (by rw [I.ok.glob]; exact I.mod.glob.keeps I.bk) hm h) hd
theorem ld_blt {E : Value → Shared → Prop} {pins : List (Addr × Obj)} {s : Shared} {σ : St} {H : Hp} {x : Str} {u : Value} {pos : Pos} {Q : Value → Shared → Prop} (I : Inv X pins σ H s) (hg : Gl X x) (hm : X.mg x = none) (hv : bootBuiltins x = some u) (h : Q u s)
    (hn : x ≠ "__name__" := by decide) (hd : (x == ("__debug__" : Str)) = false := by decide) : wpAny (model X.prog X.w) X.A (eval (.Name x pos) X.env) Q E s := by
  obtain ⟨mb, h1, h2⟩ := I.mod.blt
  exact Calls.Name_function_global I.ok.kind hg (Calls.loadGlobal_builtin (by rw [I.ok.glob]; exact I.mod.glob.keeps I.bk) hm (by rw [I.ok.blt]; exact h1.keeps I.bk) ((h2 x hn).trans hv) h) hd
/-- a module's constant, a class, a function, as a value -/
theorem pe_glob {x : Str} {v : V} {u : Value} {pos : Pos} (hg : Gl X x) (hm : X.mg x = some u) (r : RelV v u) (hd : (x == ("__debug__" : Str)) = false := by decide) : PE X (.Name x pos) (tC v) :=
  fun _ _ _ H _ I h => ld_glob I hg hm ⟨v, H, I, r, h⟩ hd
/-! ### arithmetic -/
/-- two ints -/
def t2I (ta tb : TE) (k : Int → Int → Hp → Prop) : St → Hp → Prop := fun σ H => ta σ H fun x H1 => tb σ H1 fun y H2 => ∃ i j, x = .int i ∧ y = .int j ∧ k i j H2
variable {a b : Expr} {ta tb : TE} {pos : Pos}
/-! ### comparisons -/
def PC (X : Cx) (op : CmpOp) (a b : Expr) (t : TE) : Prop :=
  ∀ (pins : List (Addr × Obj)) (s : Shared) (σ : St) (H : Hp) (Q : VK), Inv X pins σ H s → t σ H Q →
    wpAny (model X.prog X.w) X.A (eval a X.env) (fun v s₁ => wpAny (model X.prog X.w) X.A (eval b X.env) (fun u s₂ => wpAny (model X.prog X.w) X.A (compareOp op v u) (EP X pins σ Q) X.xe s₂) X.xe s₁) X.xe s
theorem nobehind (b : Expr) {op : CmpOp} (h : op ≠ .In) (h2 : op ≠ .NotIn) : behindInMarks op b = false := by
  have e1 : (op == CmpOp.In) = false := by cases op <;> first | rfl | exact absurd rfl h
  have e2 : (op == CmpOp.NotIn) = false := by cases op <;> first | rfl | exact absurd rfl h2
  cases b <;> simp [behindInMarks, e1, e2]
def tCmp (p : Int → Int → Bool) (ta tb : TE) : TE := fun σ H Q => t2I ta tb (fun i j H2 => Q (.bl (p i j)) H2) σ H
abbrev tEqI : TE → TE → TE := tCmp fun i j => decide (i = j)
/-- a comparison of two ints, by its rule -/
theorem pc_int {op : CmpOp} {p : Int → Int → Bool} (ha : PE X a ta) (hb : PE X b tb)
    (rule : ∀ (i j : Int) (t u : Tok) (Q : Value → Shared → Prop) (s : Shared), Q (.bool (p i j)) s → wpAny (model X.prog X.w) X.A (compareOp op (.int i t) (.int j u)) Q X.xe s) : PC X op a b (tCmp p ta tb) := by
  intro pins s σ H Q I h
  refine bin ha hb I h fun v u s2 x y H2 I2 rx ry q => ?_
  obtain ⟨i, j, rfl, rfl, q⟩ := q
  obtain ⟨t, rfl⟩ := rx
  obtain ⟨t', rfl⟩ := ry
  exact rule i j t t' _ s2 ⟨.bl _, H2, I2, rfl, q⟩
theorem pc_eqI (ha : PE X a ta) (hb : PE X b tb) : PC X .Eq a b (tEqI ta tb) := pc_int ha hb fun _ _ _ _ _ _ h => eq_int (by rw [Bool.beq_eq_decide_eq]; exact h)
/-- is None -/
def tIsN (ta : TE) : TE := fun σ H Q => ta σ H fun x H1 => Q (.bl (decide (x = .non))) H1
theorem RelV.none_iff {x : V} {v : Value} (r : RelV x v) : (v == Value.none) = decide (x = .non) := by
  cases x with
  | non => cases r; rfl
  | bl _ => cases r; rfl
  | int _ => obtain ⟨t, rfl⟩ := r; rfl
  | str _ => obtain ⟨t, rfl⟩ := r; rfl
  | byt _ => obtain ⟨t, rfl⟩ := r; rfl
  | flt _ => obtain ⟨t, rfl⟩ := r; rfl
  | ref _ => cases r; rfl
  | ty _ => cases r; rfl
theorem pc_isN {j pos'} (ha : PE X a ta) : PC X .Is a (.Constant .none j pos') (tIsN ta) := by
  intro pins s σ H Q I h
  refine thn (ha pins s σ H _ I h) fun v s1 ⟨x, H1, I1, r1, q1⟩ => ?_
  exact Constant_none (is_none_gen ⟨.bl _, H1, I1, by rw [r1.none_iff]; rfl, q1⟩)
/-- a comparison as a value, as a test -/
def tB (t : TE) : TT := fun σ H Q => t σ H fun x H1 => ∃ c, x = .bl c ∧ Q c H1
theorem pe_cmp {op : CmpOp} {t : TE} (h : PC X op a b t) (h1 : behindInMarks op b = false := by first | exact nobehind _ (by decide) (by decide) | rfl) : PE X (.Compare a [op] [b] pos) t := fun pins s σ H Q I hw => wpAny_Compare1 (h pins s σ H Q I hw) h1
theorem pt_cmp {op : CmpOp} {t : TE} (h : PC X op a b t) (h1 : behindInMarks op b = false := by first | exact nobehind _ (by decide) (by decide) | rfl) : PT X (.Compare a [op] [b] pos) (tB t) := by
  intro pins s σ H Q I hw
  refine wpAny_isTrue_Compare1 (thn (h pins s σ H _ I hw) fun v s1 h1 => thn h1 fun u s2 h2 => thn h2 fun c s3 ⟨x, H1, I1, r1, q1⟩ => ?_) h1
  obtain ⟨d, rfl, q⟩ := q1
  cases r1
  exact wpAny_truthy_bool ⟨H1, I1, q⟩
/-- an expression whose value is a bool, as a test -/
theorem pt_val {e : Expr} {t : TE} (h : PE X e t) (he : ∀ whole, isTrue e X.env whole = (do let v ← whole; standAt e.pos; holding [v] (truthy v)) := by intro _; rfl) : PT X e (tB t) := by
  intro pins s σ H Q I hw
  refine isTrue_plain (thn (h pins s σ H _ I hw) fun v s1 ⟨x, H1, I1, r1, q1⟩ => ?_) (he _)
  obtain ⟨d, rfl, q⟩ := q1
  cases r1
  exact wpAny_truthy_bool ⟨H1, I1, q⟩

/-! ### and, or, not -/
variable {tA tB' : TT} {rest : List Expr}
def tAnd (t u : TT) : TT := fun σ H Q => t σ H fun c H1 => if c = true then u σ H1 Q else Q false H1
def tNot (t : TT) : TT := fun σ H Q => t σ H fun c H1 => Q (!c) H1
theorem pw_and1 (ha : PT X a tA) : PW X (.BoolOp .And [a] pos) tA := by
  intro wh pins s σ H Q I h
  refine isTrue_and (thn (ha pins s σ H Q I h) fun c s1 e => ?_)
  cases c with
  | true => exact isTrue_and_nil e
  | false => exact e
theorem pw_and (ha : PT X a tA) (hb : PW X (.BoolOp .And (b :: rest) pos) tB') : PW X (.BoolOp .And (a :: b :: rest) pos) (tAnd tA tB') := by
  intro wh pins s σ H Q I h
  refine isTrue_and (thn (ha pins s σ H _ I h) fun c s1 ⟨H1, I1, q1⟩ => ?_)
  cases c with
  | true => exact hb wh pins s1 σ H1 Q I1 q1
  | false => exact ⟨H1, I1, q1⟩
theorem pt_not (ha : PT X a tA) : PT X (.UnaryOp .Not a pos) (tNot tA) := by
  intro pins s σ H Q I h
  exact isTrue_not (ha pins s σ H (fun c H1 => Q (!c) H1) I h)
/-- .. as values (bools) -/
def tAndV (ta tb : TE) : TE := fun σ H Q => ta σ H fun x H1 => ∃ c, x = .bl c ∧ if c = true then tb σ H1 Q else Q (.bl false) H1
def tNotV (ta : TE) : TE := fun σ H Q => ta σ H fun x H1 => ∃ c, x = .bl c ∧ Q (.bl (!c)) H1
theorem pe_one {op} {t : TE} (h : PE X a t) : PE X (.BoolOp op [a] pos) t := fun pins s σ H Q I hw => BoolOp_one (h pins s σ H Q I hw)
theorem pe_and (ha : PE X a ta) (hb : PE X (.BoolOp .And (b :: rest) pos) tb) : PE X (.BoolOp .And (a :: b :: rest) pos) (tAndV ta tb) := by
  intro pins s σ H Q I h
  refine BoolOp_and (thn (ha pins s σ H _ I h) fun v s1 ⟨x, H1, I1, r1, q1⟩ => ?_)
  obtain ⟨c, rfl, q1⟩ := q1
  cases r1
  refine wpAny_truthy_bool ?_
  cases c with
  | true => exact hb pins s1 σ H1 Q I1 q1
  | false => exact ⟨.bl false, H1, I1, rfl, q1⟩
theorem pe_not (ha : PE X a ta) : PE X (.UnaryOp .Not a pos) (tNotV ta) := by
  intro pins s σ H Q I h
  refine UnaryOp_ (thn (ha pins s σ H _ I h) fun v s1 ⟨x, H1, I1, r1, q1⟩ => ?_)
  obtain ⟨c, rfl, q1⟩ := q1
  cases r1
  exact not_of (wpAny_truthy_bool ⟨.bl (!c), H1, I1, rfl, q1⟩)
/-- a if t else b -/
def tIf (t : TT) (ta tb : TE) : TE := fun σ H Q => t σ H fun c H1 => if c = true then ta σ H1 Q else tb σ H1 Q
theorem pe_ifExp {c : Expr} (hc : PT X c tA) (ha : PE X a ta) (hb : PE X b tb) : PE X (.IfExp c a b pos) (tIf tA ta tb) := by
  intro pins s σ H Q I h
  refine wpAny_IfExp (thn (hc pins s σ H _ I h) fun d s1 ⟨H1, I1, q1⟩ => ?_)
  cases d with
  | true => exact ha pins s1 σ H1 Q I1 q1
  | false => exact hb pins s1 σ H1 Q I1 q1
end
end L2

namespace L2
open PySem PySem.Spec PyProof.Rows

/-! ### a list, a tuple that is read: tracked, frozen, or an object of the module -/
def SqL (K : PySem.W.Frag) (H : Hp) (a : Addr) (xs : List V) : Prop :=
  Rd H a (.lst xs) ∨
    ∃ (o : Obj) (its : Array Value) (n : Nat), K.lookup a = some o ∧ o.cls = .type "list" ∧ o.dict = none ∧ o.data = .seq its n ∧ its.size ≤ sizeLine ∧ Vals xs its.toList
def SqT (K : PySem.W.Frag) (H : Hp) (a : Addr) (xs : List V) : Prop :=
  Rd H a (.tup xs) ∨
    ∃ (o : Obj) (its : Array Value) (n : Nat), K.lookup a = some o ∧ o.cls = .type "tuple" ∧ o.data = .seq its n ∧ its.size ≤ sizeLine ∧ Vals xs its.toList
def absV : Value → Option V
  | .none => some .non
  | .bool b => some (.bl b)
  | .int i _ => some (.int i)
  | .str x _ => some (.str x)
  | .bytes b _ => some (.byt b)
  | .float b _ => some (.flt b)
  | .ref a => some (.ref a)
  | .type n => some (.ty n)
  | _ => none
theorem RelV.abs {x : V} {u : Value} (r : RelV x u) : absV u = some x := by
  cases x with
  | non => cases r; rfl
  | bl _ => cases r; rfl
  | int _ => obtain ⟨t, rfl⟩ := r; rfl
  | str _ => obtain ⟨t, rfl⟩ := r; rfl
  | byt _ => obtain ⟨t, rfl⟩ := r; rfl
  | flt _ => obtain ⟨t, rfl⟩ := r; rfl
  | ref _ => cases r; rfl
  | ty _ => cases r; rfl
theorem RelV.inj {x y : V} {u : Value} (r : RelV x u) (q : RelV y u) : x = y := Option.some.inj (r.abs.symm.trans q.abs)
theorem Vals.inj : ∀ {xs ys : List V} {us : List Value}, Vals xs us → Vals ys us → xs = ys
  | _, _, _, .nil, .nil => rfl
  | _, _, _, .cons r t, .cons r' t' => by rw [r.inj r', Vals.inj t t']
section
variable {X : Cx} {pins : List (Addr × Obj)} {σ : St} {H : Hp} {s : Shared} {a : Addr} {xs ys : List V}
theorem SqL.of {K : PySem.W.Frag} (h : H a = some (.lst xs)) : SqL K H a xs := .inl (.inl h)
theorem SqT.of {K : PySem.W.Frag} (h : H a = some (.tup xs)) : SqT K H a xs := .inl (.inl h)
theorem Inv.list (I : Inv X pins σ H s) (h : SqL X.K H a xs) : ∃ its : List Value, Vals xs its ∧ PlainL s.heap a its.toArray ∧ xs.length ≤ sizeLine := by
  rcases h with h | ⟨o, its, n, hk, hc, hd, hs, hz, r⟩
  · obtain ⟨z, its, n, r, e⟩ := h.ok I.hok
    exact ⟨its, r, ⟨_, n, e, rfl, rfl, rfl⟩, z⟩
  · refine ⟨its.toList, r, ⟨o, n, I.kIn a o hk, hc, hd, by simpa using hs⟩, ?_⟩
    have e := r.length
    simp only [Array.length_toList] at e
    omega
theorem Inv.tuple (I : Inv X pins σ H s) (h : SqT X.K H a xs) : ∃ its : List Value, Vals xs its ∧ IsTup s.heap a its.toArray ∧ xs.length ≤ sizeLine := by
  rcases h with h | ⟨o, its, n, hk, hc, hs, hz, r⟩
  · obtain ⟨z, its, r, p⟩ := h.ok I.hok
    exact ⟨its, r, p, z⟩
  · refine ⟨its.toList, r, ⟨o, I.kIn a o hk, hc, n, by simpa using hs⟩, ?_⟩
    have e := r.length
    simp only [Array.length_toList] at e
    omega
theorem Inv.list_inj (I : Inv X pins σ H s) (h : SqL X.K H a xs) (h' : SqL X.K H a ys) : xs = ys := by
  obtain ⟨its, r, ⟨o, n, e, _, _, d⟩, _⟩ := I.list h
  obtain ⟨its', r', ⟨o', n', e', _, _, d'⟩, _⟩ := I.list h'
  rw [e] at e'; cases e'
  rw [d] at d'
  injection d' with d1 _
  have : its = its' := by simpa using congrArg Array.toList d1
  subst this
  exact r.inj r'
theorem Inv.tuple_inj (I : Inv X pins σ H s) (h : SqT X.K H a xs) (h' : SqT X.K H a ys) : xs = ys := by
  obtain ⟨its, r, ⟨o, e, _, n, d⟩, _⟩ := I.tuple h
  obtain ⟨its', r', ⟨o', e', _, n', d'⟩, _⟩ := I.tuple h'
  rw [e] at e'; cases e'
  rw [d] at d'
  injection d' with d1 _
  have : its = its' := by simpa using congrArg Array.toList d1
  subst this
  exact r.inj r'
end

/-! ### another wish about exceptions -/
abbrev Cx.wish (X : Cx) (E : Value → Shared → Prop) : Cx := { X with xe := E }
/-- no exception leaves -/
abbrev Cx.nox (X : Cx) : Cx := X.wish fun _ _ => False
theorem Cx.Ok.wish {X : Cx} (ok : X.Ok) (E : Value → Shared → Prop) : (X.wish E).Ok :=
  ⟨ok.mod, ok.kind, ok.glob, ok.blt, ok.above, ok.inj, ok.has, ok.cab, ok.hd, ok.frames, ok.stk, ok.exf, ok.bs, ok.bsz, ok.noex, ok.exfs, ok.funs, ok.frf⟩
theorem Cx.Ok.unwish {X : Cx} {E : Value → Shared → Prop} (ok : (X.wish E).Ok) : X.Ok :=
  ⟨ok.mod, ok.kind, ok.glob, ok.blt, ok.above, ok.inj, ok.has, ok.cab, ok.hd, ok.frames, ok.stk, ok.exf, ok.bs, ok.bsz, ok.noex, ok.exfs, ok.funs, ok.frf⟩
section
variable {X : Cx} {pins : List (Addr × Obj)} {σ : St} {H : Hp} {s : Shared} {E : Value → Shared → Prop}
theorem Inv.wish (I : Inv X pins σ H s) (E : Value → Shared → Prop) : Inv (X.wish E) pins σ H s := ⟨I.ok.wish E, I.os, I.bare, I.base, I.loc, I.cell, I.free, I.freeC, I.pin, I.hok, I.len⟩
theorem Inv.unwish (I : Inv (X.wish E) pins σ H s) : Inv X pins σ H s := ⟨I.ok.unwish, I.os, I.bare, I.base, I.loc, I.cell, I.free, I.freeC, I.pin, I.hok, I.len⟩
theorem SP.unwish {D : Ends} {f : Flow} {s' : Shared} (h : SP (X.wish E) pins D f s') : SP X pins D f s' := by
  cases f with
  | next => obtain ⟨σ', H', I, q⟩ := h; exact ⟨σ', H', I.unwish, q⟩
  | brk => obtain ⟨σ', H', I, q⟩ := h; exact ⟨σ', H', I.unwish, q⟩
  | cont => obtain ⟨σ', H', I, q⟩ := h; exact ⟨σ', H', I.unwish, q⟩
  | ret u => obtain ⟨v, σ', H', I, r, q⟩ := h; exact ⟨v, σ', H', I.unwish, r, q⟩
theorem PSs.nox {st : List Stmt} {t : TS} (h : PSs X.nox st t) : PSs X st t := fun pins s σ H D I hw =>
  wpAny_mono (h pins s σ H D (I.wish _) hw) (fun _ _ q => q.unwish) fun _ _ z => False.elim z
end

/-! ### blocks and small statements -/
section
variable {X : Cx} {st : Stmt} {rest : List Stmt} {t u : TS} {e : Expr} {te : TE} {pos : Pos}
def tNext : TS := fun D σ H => D.nx σ H
def tSeq (t u : TS) : TS := fun D σ H => t { D with nx := u D } σ H
theorem pss_nil : PSs X [] tNext := fun _ _ σ H _ I h => wpAny_execs_nil ⟨σ, H, I, h⟩
theorem pss_cons (h1 : PS X st t) (h2 : PSs X rest u) : PSs X (st :: rest) (tSeq t u) := by
  intro pins s σ H D I h
  refine wpAny_execs_cons (thn (h1 pins s σ H { D with nx := u D } I h) fun f s1 q => ?_)
  cases f with
  | next =>
    obtain ⟨σ', H', I', q⟩ := q
    exact h2 pins s1 σ' H' D I' q
  | ret v => exact q
  | brk => exact q
  | cont => exact q
theorem pss_one (h1 : PS X st t) : PSs X [st] t := by
  intro pins s σ H D I h
  refine wpAny_execs_cons (thn (h1 pins s σ H D I h) fun f s1 q => ?_)
  cases f with
  | next => exact wpAny_execs_nil q
  | ret v => exact q
  | brk => exact q
  | cont => exact q
/-- in a def's body nothing is shown -/
theorem Inv.quiet {pins : List (Addr × Obj)} {σ : St} {H : Hp} {s : Shared} (I : Inv X pins σ H s) : interactive X.env = false := by simp [interactive, I.ok.kind]
/-- an expression whose value is dropped -/
def tDrop (te : TE) : TS := fun D σ H => te σ H fun _ H1 => D.nx σ H1
theorem ps_expr (he : PE X e te) (hs : swapsWith e none pos.line X.env = pure false := by rfl) : PS X (.Expr e pos) (tDrop te) := by
  intro pins s σ H D I h
  exact wpAny_Expr_any (thn (he pins s σ H _ I h) fun v s1 ⟨x, H1, I1, r1, q1⟩ => ⟨σ, H1, I1, q1⟩) I.quiet hs
def tRet (te : TE) : TS := fun D σ H => te σ H D.rt
theorem ps_ret (he : PE X e te) : PS X (.Return (some e) pos) (tRet te) := by
  intro pins s σ H D I h
  exact wpAny_Return_some (thn (he pins s σ H _ I h) fun v s1 ⟨x, H1, I1, r1, q1⟩ => ⟨x, σ, H1, I1, r1, q1⟩)
def tIfS (c : TT) (t u : TS) : TS := fun D σ H => c σ H fun b H1 => if b = true then t D σ H1 else u D σ H1
theorem ps_if {c : Expr} {a b : List Stmt} {tc : TT} (hc : PT X c tc) (ha : PSs X a t) (hb : PSs X b u) : PS X (.If c a b pos) (tIfS tc t u) := by
  intro pins s σ H D I h
  refine wpAny_If (thn (hc pins s σ H _ I h) fun d s1 ⟨H1, I1, q1⟩ => ?_)
  cases d with
  | true => exact ha pins s1 σ H1 D I1 q1
  | false => exact hb pins s1 σ H1 D I1 q1
end

/-! ### targets -/
abbrev TG := V → St → Hp → (St → Hp → Prop) → Prop
def PG (X : Cx) (target : Expr) (t : TG) : Prop :=
  ∀ (pins : List (Addr × Obj)) (s : Shared) (σ : St) (H : Hp) (v : V) (u : Value) (Q : St → Hp → Prop), Inv X pins σ H s → RelV v u → t v σ H Q →
    wpAny (model X.prog X.w) X.A (assign target X.env u) (fun _ s' => ∃ σ' H', Inv X pins σ' H' s' ∧ Q σ' H') X.xe s
section
variable {X : Cx} {pos : Pos}
def gName (i : Nat) : TG := fun v σ H Q => Q (σ.set i (some v)) H
theorem pg_name {i : Nat} {x : Str} (hN : X.N.Nodup) (hi : X.N[i]? = some x) (hx : Loc X.env.scope x) (hf : X.fn x = true ∨ X.env.scope.names.lookup x = some .local := by first | exact .inl rfl | exact .inr rfl | assumption) : PG X (.Name x pos) (gName i) := by
  intro pins s σ H v u Q I r h
  exact wpAny_assign_Name (store_ok I hN hi hx r (fun s' I' => ⟨_, H, I', h⟩) hf)
/-- target = value -/
def tAsg (te : TE) (g : TG) : TS := fun D σ H => te σ H fun x H1 => g x σ H1 D.nx
/-- name = value -/
theorem ps_set {i : Nat} {x : Str} {e : Expr} {te : TE} {pos' : Pos} (hN : X.N.Nodup) (hi : X.N[i]? = some x) (hx : Loc X.env.scope x) (he : PE X e te) (hs : swapsWith e (some (.Name x pos')) pos.line X.env = pure false := by rfl) (hf : X.fn x = true ∨ X.env.scope.names.lookup x = some .local := by first | exact .inl rfl | exact .inr rfl | assumption) :
    PS X (.Assign [.Name x pos'] e pos) (tAsg te (gName i)) := by
  intro pins s σ H D I h
  refine wpAny_Assign_Name (thn (he pins s σ H _ I h) fun v s1 ⟨y, H1, I1, r1, q1⟩ => ?_) hs
  exact store_ok I1 hN hi hx r1 (fun s2 I2 => ⟨_, H1, I2, q1⟩) hf
end

/-! ### while -/
section
variable {X : Cx} {pos : Pos}
/-- the invariant W with its measure -/
def tWhile (c : TT) (tb : TS) : TS := fun D σ H => ∃ W : Nat → St → Hp → Prop, (∃ m, W m σ H) ∧ ∀ m σ H, W m σ H →
  c σ H fun b H1 => if b = true then ∃ N : St → Hp → Prop, (∀ σ' H', N σ' H' → ∃ m', m' < m ∧ W m' σ' H') ∧ tb { D with nx := N, ct := N, bk := D.nx } σ H1 else D.nx σ H1
theorem ps_while {c : Expr} {body : List Stmt} {tc : TT} {tb : TS} (hp : PassesOwn (model X.prog X.w) X.A X.env X.xe) (hc : PT X c tc) (hb : PSs X body tb) : PS X (.While c body [] pos) (tWhile tc tb) := by
  intro pins s σ H D I h
  obtain ⟨W, ⟨m0, w0⟩, turn⟩ := h
  refine wpAny_While (codeAny_whileLoop (fun n s' => ∃ σ' H', Inv X pins σ' H' s' ∧ W n σ' H') ?_ m0 ⟨σ, H, I, w0⟩)
  rintro n s1 ⟨σ1, H1, I1, w1⟩
  refine wpAny_passesOwn hp (thn (hc pins s1 σ1 H1 _ I1 (turn n σ1 H1 w1)) fun b s2 ⟨H2, I2, q2⟩ => ?_)
  cases b with
  | true =>
    obtain ⟨N, hN, q2⟩ := q2
    rw [if_pos rfl]
    refine wpAny_passesOwn hp (thn (hb pins s2 σ1 H2 _ I2 q2) fun f s3 q3 => ?_)
    cases f with
    | next =>
      obtain ⟨σ3, H3, I3, n3⟩ := q3
      obtain ⟨m', hm, w3⟩ := hN σ3 H3 n3
      exact ⟨m', hm, σ3, H3, I3, w3⟩
    | cont =>
      obtain ⟨σ3, H3, I3, n3⟩ := q3
      obtain ⟨m', hm, w3⟩ := hN σ3 H3 n3
      exact ⟨m', hm, σ3, H3, I3, w3⟩
    | brk => exact q3
    | ret v => exact q3
  | false =>
    rw [if_neg Bool.false_ne_true]
    exact wpAny_execs_nil ⟨σ1, H2, I2, q2⟩
end

/-! ### what a loop or a comprehension walks -/
/-- at turn i: it yields x (the heap may grow), or it stops -/
structure It where
  go : Nat → Hp → Prop
  yld : Nat → Hp → V → Hp → Prop
  stop : Nat → Hp → Prop
/-- the iterator's own objects may turn: they are not the frame's, not pinned, younger than the entry (or a comprehension's own) -/
def FpOk (X : Cx) (pins : List (Addr × Obj)) (H : Hp) (b : Addr) : Prop :=
  H b = none ∧ b ≠ X.env.locals ∧ b ∉ X.fs ∧ (b ∈ X.ex ∨ X.s_0.heap.objs.size ≤ b) ∧ (∀ x c, X.env.cells.lookup x = some c → c ≠ b) ∧ ∀ p ∈ X.pn ++ pins, p.1 ≠ b
theorem Inv.fpOk {X : Cx} {pins : List (Addr × Obj)} {σ : St} {H H' : Hp} {s : Shared} {b : Addr} (I : Inv X pins σ H s) (hb : s.heap.objs.size ≤ b) (hn : H' b = none) : FpOk X pins H' b := by
  refine ⟨hn, Nat.ne_of_gt (Nat.lt_of_lt_of_le I.lt hb), I.nofs hb, .inr (Nat.le_trans I.sz hb), fun x c e z => ?_, fun p hp z => ?_⟩
  · obtain ⟨v, q⟩ := I.cell x c e
    exact absurd (Nat.lt_of_lt_of_le q.lt (by rw [z]; exact hb)) (Nat.lt_irrefl _)
  · exact absurd (Nat.lt_of_lt_of_le (Heap.lt_size (I.pin p hp).1) (by rw [z]; exact hb)) (Nat.lt_irrefl _)
structure Turn (P : Program) (w : World) (K : PySem.W.Frag) (tg : Expr) (J : It) (fp : List Addr) (it : Addr) (tn : Nat → Heap → Prop) : Prop where
  mem : it ∈ fp
  obj : ∀ i h, tn i h → ∀ b ∈ fp, ∃ o, h.get? b = some o ∧ ∀ v, o.data ≠ .cell v
  keep : ∀ i h h', tn i h → (∀ b ∈ fp, ∀ o, h.get? b = some o → h'.get? b = some o) → tn i h'
  item : ∀ (X : Cx), X.prog = P → X.w = w → X.K = K → X.calm = true → ∀ (i : Nat) (pins : List (Addr × Obj)) (s : Shared) (σ : St) (H : Hp) (E : Value → Shared → Prop), Inv X pins σ H s → (∀ b ∈ fp, FpOk X pins H b) → tn i s.heap → J.go i H →
    wpAny (model P w) X.A (pyNext (.ref it)) (fun r s1 => ∃ u, r = some u ∧
      wpAny (model P w) X.A (letOwnedTupleGo tg (.ref it) u) (fun _ s2 => ∃ x H', Inv X pins σ H' s2 ∧ RelV x u ∧ J.yld i H x H' ∧ tn (i + 1) s2.heap ∧ ∀ b ∈ fp, H' b = none) E s1) E s
  done : ∀ (X : Cx), X.prog = P → X.w = w → X.K = K → X.calm = true → ∀ (i : Nat) (pins : List (Addr × Obj)) (s : Shared) (σ : St) (H : Hp) (E : Value → Shared → Prop), Inv X pins σ H s → (∀ b ∈ fp, FpOk X pins H b) → tn i s.heap → J.stop i H →
    wpAny (model P w) X.A (pyNext (.ref it)) (fun r s1 => r = none ∧ Inv X pins σ H s1) E s
  self : ∀ (A : Around) (i : Nat) (s : Shared) (Q : Value → Shared → Prop) (E : Value → Shared → Prop), tn i s.heap → Q (.ref it) s → wpAny (model P w) A (pyIter (.ref it)) Q E s
abbrev TI := St → Hp → (It → Hp → Prop) → Prop
/-- an iterator has come -/
def PIE (X : Cx) (pins : List (Addr × Obj)) (σ : St) (tg : Expr) (R : It → Hp → Prop) (itv : Value) (s2 : Shared) : Prop :=
  ∃ (it : Addr) (fp : List Addr) (tn : Nat → Heap → Prop) (J : It) (H' : Hp), itv = .ref it ∧ Inv X pins σ H' s2 ∧ Turn X.prog X.w X.K tg J fp it tn ∧ tn 0 s2.heap ∧ (∀ b ∈ fp, FpOk X pins H' b) ∧ R J H'
def PI (X : Cx) (tg iter : Expr) (wi : TI) : Prop :=
  ∀ (pins : List (Addr × Obj)) (s : Shared) (σ : St) (H : Hp) (R : It → Hp → Prop), Inv X pins σ H s → wi σ H R →
    wpAny (model X.prog X.w) X.A (eval iter X.env) (fun v s1 => wpAny (model X.prog X.w) X.A (pyIter v) (PIE X pins σ tg R) X.xe s1) X.xe s

/-- the step ahead of the store is nothing for an iterator that keeps no tuple -/
theorem go_of {M : Model} {A : Around} {E : Value → Shared → Prop} {s : Shared} {tg : Expr} {it : Addr} {u : Value} {o : Obj} {n : String} {vs : Array Value} {Q : Unit → Shared → Prop} (ho : s.heap.get? it = some o) (hc : o.cls = .type n) (hd : o.data = .fields vs)
    (hn : ["enumerate", "zip", "dict_itemiterator", "dict_reverseitemiterator", "odict_iterator", "itertools.zip_longest", "itertools.pairwise"].contains n = false) (hQ : Q () s) : wpAny M A (letOwnedTupleGo tg (.ref it) u) Q E s := by
  unfold letOwnedTupleGo
  cases tg <;> first
    | exact wpAny_pure hQ
    | (cases u <;> first
        | exact wpAny_pure hQ
        | (refine wpAny_bind (wpAny_load ho ?_)
           rw [hc, hd]
           show wpAny M A (if (["enumerate", "zip", "dict_itemiterator", "dict_reverseitemiterator", "odict_iterator", "itertools.zip_longest", "itertools.pairwise"].contains n && vs[0]? == some (rawInt _)) = true then _ else _) Q E s
           rw [if_neg (by intro h; rw [hn, Bool.false_and] at h; cases h)]
           exact wpAny_pure hQ))

/-- the list at a, as it stands at each turn (a loop may append to it) -/
def Itl (K : PySem.W.Frag) (a : Addr) : It :=
  ⟨fun i H => ∃ xs x, SqL K H a xs ∧ xs[i]? = some x, fun i H x H' => H' = H ∧ ∀ xs, SqL K H a xs → xs[i]? = some x, fun i H => ∃ xs, SqL K H a xs ∧ xs.length ≤ i⟩
def Itt (K : PySem.W.Frag) (a : Addr) : It :=
  ⟨fun i H => ∃ xs x, SqT K H a xs ∧ xs[i]? = some x, fun i H x H' => H' = H ∧ ∀ xs, SqT K H a xs → xs[i]? = some x, fun i H => ∃ xs, SqT K H a xs ∧ xs.length ≤ i⟩
/-- lo, lo + 1, .. (n of them) -/
def Itr (lo : Int) (n : Nat) : It := ⟨fun i _ => i < n, fun i H x H' => H' = H ∧ x = .int (lo + i), fun i _ => n ≤ i⟩
theorem turn_list {P : Program} {w : World} {K : PySem.W.Frag} {tg : Expr} (a it : Addr) : Turn P w K tg (Itl K a) [it] it (fun i h => h.IsListIter it a i) where
  mem := by simp
  obj := fun i h st b hb => by
    have e : b = it := by simpa using hb
    subst e
    obtain ⟨o, e, c, d⟩ := st
    exact ⟨o, e, fun v z => by rw [d] at z; cases z⟩
  keep := fun i h h' st k => st.at fun o e => k it (by simp) o e
  item := by
    intro X hP hw hK hc i pins s σ H E I hf st hg
    subst hP hw hK
    obtain ⟨xs, x, hq, hx⟩ := hg
    obtain ⟨its, rv, p, hz⟩ := I.list hq
    obtain ⟨u, hu, ru⟩ := rv.get hx
    obtain ⟨f0, f1, f2, f3, f4, f5⟩ := hf it (by simp)
    refine wpAny_pyNext_list_item st p.isList (x := u) (by simpa using hu) fun h' st' sb => ?_
    have I1 : Inv X pins σ H { s with heap := h' } := I.turned (t' := s.toks) (fun b o hb e => (sb.2 b hb).trans e) f0 f1 f3 f4 f5
    obtain ⟨o, e, c, d⟩ := id st'
    exact ⟨u, rfl, go_of (s := { s with heap := h' }) e c d (by decide) ⟨x, H, I1, ru, ⟨rfl, fun ys hy => by rw [I.list_inj hy hq]; exact hx⟩, st', fun b hb => (hf b hb).1⟩⟩
  done := by
    intro X hP hw hK hc i pins s σ H E I hf st hg
    subst hP hw hK
    obtain ⟨xs, hq, hx⟩ := hg
    obtain ⟨its, rv, p, hz⟩ := I.list hq
    obtain ⟨f0, f1, f2, f3, f4, f5⟩ := hf it (by simp)
    have hl := rv.length
    exact wpAny_pyNext_list_end (I.ok.hd hc) st p.isList (by simp; omega) fun h' eb => ⟨rfl, I.turned (t' := s.toks) (fun b o hb e => eb b o hb e) f0 f1 f3 f4 f5⟩
  self := fun _ _ _ _ _ st h => wpAny_pyIter_listiter st h
theorem turn_tuple {P : Program} {w : World} {K : PySem.W.Frag} {tg : Expr} (a it : Addr) : Turn P w K tg (Itt K a) [it] it (fun i h => h.IsTupleIter it a i) where
  mem := by simp
  obj := fun i h st b hb => by
    have e : b = it := by simpa using hb
    subst e
    obtain ⟨o, e, c, d⟩ := st
    exact ⟨o, e, fun v z => by rw [d] at z; cases z⟩
  keep := fun i h h' st k => st.at fun o e => k it (by simp) o e
  item := by
    intro X hP hw hK hc i pins s σ H E I hf st hg
    subst hP hw hK
    obtain ⟨xs, x, hq, hx⟩ := hg
    obtain ⟨its, rv, p, hz⟩ := I.tuple hq
    obtain ⟨u, hu, ru⟩ := rv.get hx
    obtain ⟨f0, f1, f2, f3, f4, f5⟩ := hf it (by simp)
    refine wpAny_pyNext_tuple_item st (show s.heap.IsTuple a its.toArray from p) (x := u) (by simpa using hu) fun h' st' sb => ?_
    have I1 : Inv X pins σ H { s with heap := h' } := I.turned (t' := s.toks) (fun b o hb e => (sb.2 b hb).trans e) f0 f1 f3 f4 f5
    obtain ⟨o, e, c, d⟩ := id st'
    exact ⟨u, rfl, go_of (s := { s with heap := h' }) e c d (by decide) ⟨x, H, I1, ru, ⟨rfl, fun ys hy => by rw [I.tuple_inj hy hq]; exact hx⟩, st', fun b hb => (hf b hb).1⟩⟩
  done := by
    intro X hP hw hK hc i pins s σ H E I hf st hg
    subst hP hw hK
    obtain ⟨xs, hq, hx⟩ := hg
    obtain ⟨its, rv, p, hz⟩ := I.tuple hq
    obtain ⟨f0, f1, f2, f3, f4, f5⟩ := hf it (by simp)
    have hl := rv.length
    exact wpAny_pyNext_tuple_end (I.ok.hd hc) st (show s.heap.IsTuple a its.toArray from p) (by simp; omega) fun h' eb => ⟨rfl, I.turned (t' := s.toks) (fun b o hb e => eb b o hb e) f0 f1 f3 f4 f5⟩
  self := fun _ _ _ _ _ st h => wpAny_pyIter_tupleiter st h
theorem turn_range {P : Program} {w : World} {K : PySem.W.Frag} {tg : Expr} (it : Addr) (lo : Int) (n : Nat) : Turn P w K tg (Itr lo n) [it] it (fun i h => IsRangeIter h it (lo + (i : Nat) * 1) ((n : Int) - (i : Nat)) 1) where
  mem := by simp
  obj := fun i h st b hb => by
    have e : b = it := by simpa using hb
    subst e
    exact ⟨_, st, fun v z => by
      have z' : Data.fields _ = Data.cell v := z
      cases z'⟩
  keep := fun i h h' st k => k it (by simp) _ st
  item := by
    intro X hP hw hK hc i pins s σ H E I hf st hg
    subst hP hw hK
    obtain ⟨f0, f1, f2, f3, f4, f5⟩ := hf it (by simp)
    have W := Walks.range (prog := X.prog) (w := X.w) (I.ok.hd hc) it lo 1 n
    refine W.item i s _ _ hg st fun v h' tk hv st' kk => ?_
    obtain ⟨t, rfl⟩ := hv
    have I1 : Inv X pins σ H { s with heap := h', toks := tk } := I.turned (fun b o hb e => kk b o (by simpa using hb) e) f0 f1 f3 f4 f5
    refine ⟨_, rfl, go_of (s := { s with heap := h', toks := tk }) (n := "range_iterator") st' rfl rfl (by decide) ⟨.int (lo + i), H, I1, ⟨t, ?_⟩, ⟨rfl, rfl⟩, st', fun b hb => (hf b hb).1⟩⟩
    rw [Int.mul_one]
  done := by
    intro X hP hw hK hc i pins s σ H E I hf st hg
    subst hP hw hK
    obtain ⟨f0, f1, f2, f3, f4, f5⟩ := hf it (by simp)
    exact wpAny_pyNext_range_end (I.ok.hd hc) st (by have : n ≤ i := hg; omega) fun h' eb => ⟨rfl, I.turned (t' := s.toks) (fun b o hb e => eb b o hb e) f0 f1 f3 f4 f5⟩
  self := fun _ _ _ _ _ st h => wpAny_pyIter_rangeiter st h
end L2

namespace L2
open PySem PySem.Spec PyProof.Rows
section
variable {X : Cx} {tg : Expr}
def iList (K : PySem.W.Frag) (tl : TE) : TI := fun σ H R => tl σ H fun x H1 => ∃ a, x = .ref a ∧ (∃ xs, SqL K H1 a xs) ∧ R (Itl K a) H1
def iTup (K : PySem.W.Frag) (tl : TE) : TI := fun σ H R => tl σ H fun x H1 => ∃ a, x = .ref a ∧ (∃ xs, SqT K H1 a xs) ∧ R (Itt K a) H1
theorem pi_list {l : Expr} {tl : TE} (hl : PE X l tl) : PI X tg l (iList X.K tl) := by
  intro pins s σ H R I h
  refine thn (hl pins s σ H _ I h) fun v s1 ⟨x, H1, I1, r1, q1⟩ => ?_
  obtain ⟨a, e, ⟨xs, hq⟩, q⟩ := q1
  subst e
  cases r1
  obtain ⟨its, rv, p, hz⟩ := I1.list hq
  refine wpAny_pyIter_list p.isList ?_
  refine ⟨s1.heap.objs.size, [s1.heap.objs.size], _, _, H1, rfl, I1.kept (t' := s1.toks) fun b o e => Heap.get?_push_of_some _ e, turn_list a _, ⟨_, Heap.get?_push_size _ rfl, rfl, rfl⟩, fun b hb => ?_, q⟩
  have e : b = s1.heap.objs.size := by simpa using hb
  subst e
  exact I1.fpOk (Nat.le_refl _) (I1.hok.fresh (Nat.le_refl _))
theorem pi_tup {l : Expr} {tl : TE} (hl : PE X l tl) : PI X tg l (iTup X.K tl) := by
  intro pins s σ H R I h
  refine thn (hl pins s σ H _ I h) fun v s1 ⟨x, H1, I1, r1, q1⟩ => ?_
  obtain ⟨a, e, ⟨xs, hq⟩, q⟩ := q1
  subst e
  cases r1
  obtain ⟨its, rv, p, hz⟩ := I1.tuple hq
  refine wpAny_pyIter_tuple (show s1.heap.IsTuple a its.toArray from p) ?_
  refine ⟨s1.heap.objs.size, [s1.heap.objs.size], _, _, H1, rfl, I1.kept (t' := s1.toks) fun b o e => Heap.get?_push_of_some _ e, turn_tuple a _, ⟨_, Heap.get?_push_size _ rfl, rfl, rfl⟩, fun b hb => ?_, q⟩
  have e : b = s1.heap.objs.size := by simpa using hb
  subst e
  exact I1.fpOk (Nat.le_refl _) (I1.hok.fresh (Nat.le_refl _))
/-- a range object just made, walked -/
theorem range_it {pins : List (Addr × Obj)} {σ : St} {H : Hp} {s : Shared} {R : It → Hp → Prop} {E : Value → Shared → Prop} {lo hi : Int} {t u v : Tok} {tk : Nat} (I : Inv X pins σ H s) (h1 : -(2 ^ 62) ≤ lo) (h2 : lo < 2 ^ 62) (h3 : -(2 ^ 62) ≤ hi) (h4 : hi < 2 ^ 62)
    (q : R (Itr lo (hi - lo).toNat) H) : wpAny (model X.prog X.w) X.A (pyIter (.ref s.heap.objs.size)) (PIE X pins σ tg R) E { s with heap := s.heap.push { cls := .type "range", data := .fields #[.int lo t, .int hi u, .int 1 v] }, toks := tk } := by
  refine wpAny_pyIter_range (IsRange.new ..) (small_one h1 h2 h3 h4) ?_
  have I1 : Inv X pins σ H { s with heap := s.heap.push { cls := .type "range", data := .fields #[.int lo t, .int hi u, .int 1 v] }, toks := tk } := I.kept fun b o e => Heap.get?_push_of_some _ e
  refine ⟨(s.heap.push { cls := .type "range", data := .fields #[.int lo t, .int hi u, .int 1 v] }).objs.size, [(s.heap.push { cls := .type "range", data := .fields #[.int lo t, .int hi u, .int 1 v] }).objs.size], _, _, H, rfl,
    I1.kept (t' := tk) fun b o e => Heap.get?_push_of_some _ e, turn_range _ lo (hi - lo).toNat, ?_, fun b hb => ?_, q⟩
  · have e1 : lo + ((0 : Nat) : Int) * 1 = lo := by simp
    have e2 : (((hi - lo).toNat : Nat) : Int) - ((0 : Nat) : Int) = Builtin.Range.rangeSize lo hi 1 := by rw [rangeSize_one]; split <;> omega
    show IsRangeIter _ _ (lo + ((0 : Nat) : Int) * 1) ((((hi - lo).toNat : Nat) : Int) - ((0 : Nat) : Int)) 1
    rw [e1, e2]
    exact Heap.get?_push_size _ rfl
  · have e : b = (s.heap.push { cls := .type "range", data := .fields #[.int lo t, .int hi u, .int 1 v] }).objs.size := by simpa using hb
    subst e
    exact I1.fpOk (Nat.le_refl _) (I1.hok.fresh (Nat.le_refl _))
def iRng1 (ta : TA) : TI := fun σ H R => ta σ H fun vs H1 => ∃ j : Int, vs = [.int j] ∧ -(2 ^ 62) ≤ j ∧ j < 2 ^ 62 ∧ R (Itr 0 j.toNat) H1
theorem pi_range1 {a : Expr} {ta : TA} {p pos : Pos} (hg : Gl X "range") (hm : X.mg "range" = none) (ha : PA X [a] ta) (hs : starEach [a] X.env = [(false, eval a X.env)] := by rfl) : PI X tg (.Call (.Name "range" p) [a] [] pos) (iRng1 ta) := by
  intro pins s σ H R I h
  refine Call_ (ld_blt I hg hm boot_range (PyProof.Rows.callWith_type1 (thn (ha pos pins s σ H _ I h) fun us s1 ⟨vs, H1, I1, r1, q1⟩ => ?_) hs rfl))
  obtain ⟨j, e, q1, q2, q⟩ := q1
  subst e
  cases r1 with
  | cons r rr =>
    cases rr
    obtain ⟨t, rfl⟩ := r
    exact call_range_1 (range_it I1 (by omega) (by omega) q1 q2 (by simpa using q))
/-! ### for -/
/-- W: the invariant by the turn and a measure; N: what the body is to reach -/
def tFor (wi : TI) (g : TG) (tb : TS) : TS := fun D σ H => wi σ H fun J H1 => ∃ W : Nat → Nat → St → Hp → Prop, (∃ m, W 0 m σ H1) ∧ ∀ i m σ H, W i m σ H →
  (J.stop i H ∧ D.nx σ H) ∨ (J.go i H ∧ ∃ N : St → Hp → Prop, (∀ σ' H', N σ' H' → ∃ m', m' < m ∧ W (i + 1) m' σ' H') ∧ ∀ x H', J.yld i H x H' → g x σ H' fun σ2 H2 => tb { D with nx := N, ct := N, bk := D.nx } σ2 H2)
/-- the records at fp as they stand -/
def pinsAt (fp : List Addr) (h : Heap) : List (Addr × Obj) := fp.filterMap fun b => (h.get? b).map fun o => (b, o)
theorem mem_pinsAt {fp : List Addr} {h : Heap} {b : Addr} {o : Obj} (hb : b ∈ fp) (e : h.get? b = some o) : (b, o) ∈ pinsAt fp h := List.mem_filterMap.mpr ⟨b, hb, by rw [e]; rfl⟩
theorem of_pinsAt {fp : List Addr} {h : Heap} {p : Addr × Obj} (hp : p ∈ pinsAt fp h) : p.1 ∈ fp ∧ h.get? p.1 = some p.2 := by
  obtain ⟨b, hb, e⟩ := List.mem_filterMap.mp hp
  cases q : h.get? b with
  | none => rw [q] at e; cases e
  | some o =>
    rw [q] at e
    have e' : (b, o) = p := Option.some.inj e
    subst e'
    exact ⟨hb, q⟩
theorem Inv.pinned {pins : List (Addr × Obj)} {σ : St} {H : Hp} {s : Shared} {fp : List Addr} (I : Inv X pins σ H s) (hf : ∀ b ∈ fp, FpOk X pins H b) (ho : ∀ b ∈ fp, ∃ o, s.heap.get? b = some o ∧ ∀ v, o.data ≠ .cell v) : Inv X (pins ++ pinsAt fp s.heap) σ H s :=
  I.pins_of fun p hp => (List.mem_append.mp hp).elim (fun z => I.pin p (List.mem_append_right _ z)) fun z => by
    obtain ⟨hb, e⟩ := of_pinsAt z
    obtain ⟨f0, f1, f2, _⟩ := hf p.1 hb
    obtain ⟨o, e', d⟩ := ho p.1 hb
    rw [e] at e'; cases e'
    exact ⟨e, f0, f1, f2, d⟩
theorem Inv.unpinned {pins pl : List (Addr × Obj)} {σ : St} {H : Hp} {s : Shared} (I : Inv X (pins ++ pl) σ H s) : Inv X pins σ H s := I.pins_of fun p hp => I.pin p (List.mem_append_right _ (List.mem_append_left _ hp))
theorem ps_for {iter : Expr} {body : List Stmt} {wi : TI} {g : TG} {tb : TS} {pos : Pos} (hp : PassesOwn (model X.prog X.w) X.A X.env X.xe) (hc : X.calm = true) (hi : PI X tg iter wi) (hg : PG X tg g) (hb : PSs X body tb)
    (hs : ∀ x, foldedSetIterable iter X.env x = pure x := by intro _; rfl) : PS X (.For tg iter body [] pos) (tFor wi g tb) := by
  intro pins s σ H D I h
  refine wpAny_For (thn (hi pins s σ H _ I h) fun v s1 h1 => thn h1 fun itv s2 h2 => ?_) hs
  obtain ⟨it, fp, tn, J, H2, e, I2, T, st2, f2, W, ⟨m0, w0⟩, turn⟩ := h2
  subst e
  -- what stays true of the iterator's objects through the loop
  have stat : ∀ {H' : Hp}, (∀ b ∈ fp, H' b = none) → ∀ b ∈ fp, FpOk X pins H' b := fun hn b hb => ⟨hn b hb, (f2 b hb).2⟩
  refine codeAny_forLoop_any (fun n s' => ∃ i σ' H', Inv X pins σ' H' s' ∧ tn i s'.heap ∧ (∀ b ∈ fp, H' b = none) ∧ W i n σ' H') ?_ m0 ⟨0, σ, H2, I2, st2, fun b hb => (f2 b hb).1, w0⟩
  rintro n s3 ⟨i, σ3, H3, I3, st3, fr3, w3⟩
  rcases turn i n σ3 H3 w3 with ⟨stop, qn⟩ | ⟨go, N, hN, step⟩
  · refine wpAny_passesOwn hp (thn (T.done X rfl rfl rfl hc i pins s3 σ3 H3 X.xe I3 (stat fr3) st3 stop) fun r s4 ⟨hr, I4⟩ => ?_)
    subst hr
    exact wpAny_execs_nil ⟨σ3, H3, I4, qn⟩
  · refine wpAny_passesOwn hp (thn (T.item X rfl rfl rfl hc i pins s3 σ3 H3 X.xe I3 (stat fr3) st3 go) fun r s4 ⟨u, hr, h4⟩ => ?_)
    subst hr
    refine wpAny_passesOwn hp (thn h4 fun _ s5 ⟨x, H5, I5, r5, y5, st5, fr5⟩ => ?_)
    have I5' := I5.pinned (stat fr5) (T.obj _ _ st5)
    refine wpAny_passesOwn hp (thn (hg _ s5 σ3 H5 x u _ I5' r5 (step x H5 y5)) fun _ s6 ⟨σ6, H6, I6, q6⟩ => ?_)
    refine wpAny_passesOwn hp (thn (hb _ s6 σ6 H6 _ I6 q6) fun f s7 q7 => ?_)
    have again : ∀ {σ7 : St} {H7 : Hp}, Inv X (pins ++ pinsAt fp s5.heap) σ7 H7 s7 → N σ7 H7 → ∃ m, m < n ∧ ∃ i σ' H', Inv X pins σ' H' s7 ∧ tn i s7.heap ∧ (∀ b ∈ fp, H' b = none) ∧ W i m σ' H' := fun {σ7 H7} I7 n7 => by
      obtain ⟨m', hm, w7⟩ := hN σ7 H7 n7
      refine ⟨m', hm, i + 1, σ7, H7, I7.unpinned, T.keep _ _ _ st5 fun b hb o e => (I7.pin (b, o) (List.mem_append_right _ (List.mem_append_right _ (mem_pinsAt hb e)))).1, fun b hb => ?_, w7⟩
      obtain ⟨o, e, d⟩ := T.obj _ _ st5 b hb
      exact (I7.pin (b, o) (List.mem_append_right _ (List.mem_append_right _ (mem_pinsAt hb e)))).2.1
    cases f with
    | next => obtain ⟨σ7, H7, I7, n7⟩ := q7; exact again I7 n7
    | cont => obtain ⟨σ7, H7, I7, n7⟩ := q7; exact again I7 n7
    | brk => obtain ⟨σ7, H7, I7, q7⟩ := q7; exact ⟨σ7, H7, I7.unpinned, q7⟩
    | ret v => obtain ⟨x7, σ7, H7, I7, r7, q7⟩ := q7; exact ⟨x7, σ7, H7, I7.unpinned, r7, q7⟩
end

/-! ### the forms one uses -/
theorem for_range {lo : Int} {n : Nat} {g : TG} {tb : TS} {D : Ends} {σ : St} {H : Hp} (Pv : Nat → St → Hp → Prop) (h0 : Pv 0 σ H)
    (hs : ∀ i σ H, i < n → Pv i σ H → g (.int (lo + i)) σ H fun σ2 H2 => tb { D with nx := Pv (i + 1), ct := Pv (i + 1), bk := D.nx } σ2 H2) (hd : ∀ σ H, Pv n σ H → D.nx σ H) :
    ∃ W : Nat → Nat → St → Hp → Prop, (∃ m, W 0 m σ H) ∧ ∀ i m σ H, W i m σ H →
      ((Itr lo n).stop i H ∧ D.nx σ H) ∨ ((Itr lo n).go i H ∧ ∃ N : St → Hp → Prop, (∀ σ' H', N σ' H' → ∃ m', m' < m ∧ W (i + 1) m' σ' H') ∧ ∀ x H', (Itr lo n).yld i H x H' → g x σ H' fun σ2 H2 => tb { D with nx := N, ct := N, bk := D.nx } σ2 H2) := by
  refine ⟨fun i m σ H => m = n - i ∧ i ≤ n ∧ Pv i σ H, ⟨n, by simp, Nat.zero_le _, h0⟩, ?_⟩
  rintro i m σ H ⟨rfl, hi, p⟩
  by_cases hlt : i < n
  · refine .inr ⟨hlt, Pv (i + 1), fun σ' H' p' => ⟨n - (i + 1), by omega, rfl, hlt, p'⟩, fun x H' y => ?_⟩
    obtain ⟨e, y⟩ := y
    subst e y
    exact hs i σ _ hlt p
  · have e : i = n := by omega
    subst e
    exact .inl ⟨Nat.le_refl _, hd σ H p⟩
end L2

namespace L2
open PySem PySem.Spec PyProof.Rows

abbrev R2 := V → V → Hp → VK → Prop
/-- a two-place operation on values: f is binaryOp op, inplaceOp op or compareOp op -/
def OpR (X : Cx) (f : Value → Value → Sem Value) (r : R2) : Prop :=
  ∀ (pins : List (Addr × Obj)) (s : Shared) (σ : St) (H : Hp) (x y : V) (v u : Value) (Q : VK), Inv X pins σ H s → RelV x v → RelV y u → r x y H Q →
    wpAny (model X.prog X.w) X.A (f v u) (EP X pins σ Q) X.xe s
/-- a call of a value that is known (a builtin, a type) with values -/
def CallR (X : Cx) (f : Value) (r : List V → Hp → VK → Prop) : Prop :=
  ∀ (pins : List (Addr × Obj)) (s : Shared) (σ : St) (H : Hp) (xs : List V) (us : List Value) (Q : VK), Inv X pins σ H s → Vals xs us → r xs H Q →
    wpAny (model X.prog X.w) X.A (call f us) (EP X pins σ Q) X.xe s
def tOp (r : R2) (ta tb : TE) : TE := fun σ H Q => ta σ H fun x H1 => tb σ H1 fun y H2 => r x y H2 Q
/-- ints in, under C, and a value out -/
def rI (C : Int → Int → Prop) (g : Int → Int → V) : R2 := fun x y H Q => ∃ i j, x = .int i ∧ y = .int j ∧ C i j ∧ Q (g i j) H
def rI0 (g : Int → Int → V) : R2 := fun x y H Q => ∃ i j, x = .int i ∧ y = .int j ∧ Q (g i j) H
section
variable {X : Cx} {a b c : Expr} {ta tb tc : TE} {pos : Pos}

theorem binT (ha : PE X a ta) (hb : PE X b tb) {pins : List (Addr × Obj)} {s : Shared} {σ : St} {H : Hp} {R : V → V → Hp → Prop} (I : Inv X pins σ H s)
    (h : ta σ H fun x H1 => tb σ H1 fun y H2 => R x y H2) {Q : Value → Shared → Prop} {f : Value → Value → Sem Value}
    (hf : ∀ v u s2 x y H2, Inv X pins σ H2 s2 → RelV x v → RelV y u → R x y H2 → wpAny (model X.prog X.w) X.A (f v u) Q X.xe s2) :
    wpAny (model X.prog X.w) X.A (eval a X.env) (fun v s₁ => wpAny (model X.prog X.w) X.A (eval b X.env) (fun u s₂ => wpAny (model X.prog X.w) X.A (f v u) Q X.xe s₂) X.xe s₁) X.xe s := by
  refine thn (ha pins s σ H _ I h) fun v s1 ⟨x, H1, I1, r1, q1⟩ => ?_
  refine thn (hb pins s1 σ H1 _ I1 q1) fun u s2 ⟨y, H2, I2, r2, q2⟩ => ?_
  exact hf v u s2 x y H2 I2 r1 r2 q2

theorem pe_op {op : Operator} {r : R2} (ho : OpR X (binaryOp op) r) (ha : PE X a ta) (hb : PE X b tb) : PE X (.BinOp a op b pos) (tOp r ta tb) := by
  intro pins s σ H Q I h
  exact wpAny_BinOp (binT ha hb I h fun v u s2 x y H2 I2 rx ry q => ho pins s2 σ H2 x y v u Q I2 rx ry q)
/-! ### ints -/
theorem opI {f : Value → Value → Sem Value} {C : Int → Int → Prop} {g : Int → Int → Int}
    (rule : ∀ (i j : Int) (t u : Tok) (s : Shared) (Q : Value → Shared → Prop) (E : Value → Shared → Prop), C i j → Q (.int (g i j) s.toks) { s with toks := s.toks + 1 } → wpAny (model X.prog X.w) X.A (f (.int i t) (.int j u)) Q E s) :
    OpR X f (rI C fun i j => .int (g i j)) := by
  intro pins s σ H x y v u Q I rx ry h
  obtain ⟨i, j, rfl, rfl, hc, q⟩ := h
  obtain ⟨t, rfl⟩ := rx
  obtain ⟨t', rfl⟩ := ry
  exact rule i j t t' s _ _ hc ⟨.int (g i j), H, I.tok _, ⟨_, rfl⟩, q⟩
theorem opI0 {f : Value → Value → Sem Value} {g : Int → Int → Int}
    (rule : ∀ (i j : Int) (t u : Tok) (s : Shared) (Q : Value → Shared → Prop) (E : Value → Shared → Prop), Q (.int (g i j) s.toks) { s with toks := s.toks + 1 } → wpAny (model X.prog X.w) X.A (f (.int i t) (.int j u)) Q E s) :
    OpR X f (rI0 fun i j => .int (g i j)) := by
  intro pins s σ H x y v u Q I rx ry h
  obtain ⟨i, j, rfl, rfl, q⟩ := h
  obtain ⟨t, rfl⟩ := rx
  obtain ⟨t', rfl⟩ := ry
  exact rule i j t t' s _ _ ⟨.int (g i j), H, I.tok _, ⟨_, rfl⟩, q⟩
theorem opB0 {f : Value → Value → Sem Value} {g : Int → Int → Bool}
    (rule : ∀ (i j : Int) (t u : Tok) (s : Shared) (Q : Value → Shared → Prop) (E : Value → Shared → Prop), Q (.bool (g i j)) s → wpAny (model X.prog X.w) X.A (f (.int i t) (.int j u)) Q E s) :
    OpR X f (rI0 fun i j => .bl (g i j)) := by
  intro pins s σ H x y v u Q I rx ry h
  obtain ⟨i, j, rfl, rfl, q⟩ := h
  obtain ⟨t, rfl⟩ := rx
  obtain ⟨t', rfl⟩ := ry
  exact rule i j t t' s _ _ ⟨.bl (g i j), H, I, rfl, q⟩

def CDiv (i j : Int) : Prop := 0 < j ∧ j < 1073741824
def CMul (i j : Int) : Prop := (-(2 ^ 64) < i ∧ i < 2 ^ 64) ∨ (-(2 ^ 64) < j ∧ j < 2 ^ 64)
theorem CMul.ok {i j : Int} (h : CMul i j) : IntMulOk i j := by
  rcases h with ⟨h1, h2⟩ | ⟨h1, h2⟩
  · exact .of_left (intBits_le_64 h1 h2)
  · exact .of_right (intBits_le_64 h1 h2)
theorem op_add : OpR X (binaryOp .Add) (rI0 fun i j => .int (i + j)) := opI0 fun _ _ _ _ _ _ _ q => add_int q
theorem op_sub : OpR X (binaryOp .Sub) (rI0 fun i j => .int (i - j)) := opI0 fun _ _ _ _ _ _ _ q => sub_int q
theorem op_mul : OpR X (binaryOp .Mult) (rI CMul fun i j => .int (i * j)) := opI fun _ _ _ _ _ _ _ hc q => mul_int q hc.ok
/-- // by a positive divisor -/
theorem op_fdiv : OpR X (binaryOp .FloorDiv) (rI CDiv fun i j => .int (i / j)) := opI fun i j _ _ _ _ _ hc q => by
  have h1 : (0 : Int) < j := hc.1
  have h2 : j < 1073741824 := hc.2
  exact floordiv_int (by omega) (by rw [Int.fdiv_eq_ediv_of_nonneg i (by omega)]; exact q) (.inl (PyProof.noPylong_small (by omega)))
/-- % by a positive divisor of any size -/
theorem op_mod : OpR X (binaryOp .Mod) (rI (fun _ j => 0 < j) fun i j => .int (i % j)) := opI fun i j _ _ _ _ _ hc q => by
  have h1 : (0 : Int) < j := hc
  exact mod_int' (by omega) (by rw [Int.fmod_eq_emod_of_nonneg i (by omega)]; exact q)
/-! ### bools among ints: n += (a < b) -/
end

/-! ### comparisons -/
/-- the scalars that == tells apart as data does -/
def scal : V → V → Bool
  | .non, .non => true | .non, .int _ => true | .int _, .non => true | .non, .bl _ => true | .bl _, .non => true | .non, .str _ => true | .str _, .non => true
  | .int _, .int _ => true | .bl _, .bl _ => true | .str _, .str _ => true | .byt _, .byt _ => true
  | .int _, .str _ => true | .str _, .int _ => true | .bl _, .str _ => true | .str _, .bl _ => true
  | _, _ => false
def rEq : R2 := fun x y H Q => scal x y = true ∧ Q (.bl (decide (x = y))) H
theorem dec_int {i j : Int} : decide (V.int i = V.int j) = (i == j) := by
  rw [Bool.eq_iff_iff]
  simp
theorem dec_bl {i j : Bool} : decide (V.bl i = V.bl j) = (i == j) := by
  rw [Bool.eq_iff_iff]
  simp
theorem dec_str {i j : Str} : decide (V.str i = V.str j) = (i == j) := by
  rw [Bool.eq_iff_iff]
  simp
theorem dec_byt {i j : Array UInt8} : decide (V.byt i = V.byt j) = (i.toList == j.toList) := by
  rw [Bool.eq_iff_iff]
  cases i
  cases j
  simp

section
variable {X : Cx} {a b c : Expr} {ta tb tc : TE} {pos : Pos}
theorem fin_bl {pins : List (Addr × Obj)} {σ : St} {H : Hp} {s : Shared} {Q : VK} {k k' : Bool} (I : Inv X pins σ H s) (q : Q (.bl k) H) (e : k = k') : EP X pins σ Q (.bool k') s := by
  subst e
  exact ⟨.bl k, H, I, rfl, q⟩
theorem op_eq : OpR X (compareOp .Eq) rEq := by
  intro pins s σ H x y v u Q I rx ry h
  obtain ⟨hs, q⟩ := h
  cases x with
  | non =>
    cases rx
    cases y with
    | non => cases ry; exact PySem.EqNone.eq_none_none (fin_bl I q (by simp))
    | bl j => cases ry; exact PySem.EqNone.eq_none_bool (fin_bl I q (by simp))
    | int j => obtain ⟨t', rfl⟩ := ry; exact PySem.EqNone.eq_none_int (fin_bl I q (by simp))
    | str j => obtain ⟨t', rfl⟩ := ry; exact PySem.EqNone.eq_none_str (fin_bl I q (by simp))
    | _ => exact absurd (show false = true from hs) Bool.false_ne_true
  | bl i =>
    cases rx
    cases y with
    | non => cases ry; exact PySem.EqNone.eq_bool_none (fin_bl I q (by simp))
    | bl j => cases ry; exact eq_bool (fin_bl I q dec_bl)
    | str j => obtain ⟨t', rfl⟩ := ry; exact PySem.EqMixed.eq_bool_str (fin_bl I q (by simp))
    | _ => exact absurd (show false = true from hs) Bool.false_ne_true
  | int i =>
    obtain ⟨t, rfl⟩ := rx
    cases y with
    | non => cases ry; exact PySem.EqNone.eq_int_none (fin_bl I q (by simp))
    | int j => obtain ⟨t', rfl⟩ := ry; exact eq_int (fin_bl I q dec_int)
    | str j => obtain ⟨t', rfl⟩ := ry; exact PySem.EqMixed.eq_int_str (fin_bl I q (by simp))
    | _ => exact absurd (show false = true from hs) Bool.false_ne_true
  | str i =>
    obtain ⟨t, rfl⟩ := rx
    cases y with
    | non => cases ry; exact PySem.EqNone.eq_str_none (fin_bl I q (by simp))
    | bl j => cases ry; exact PySem.EqMixed.eq_str_bool (fin_bl I q (by simp))
    | int j => obtain ⟨t', rfl⟩ := ry; exact PySem.EqMixed.eq_str_int (fin_bl I q (by simp))
    | str j => obtain ⟨t', rfl⟩ := ry; exact eq_str (fin_bl I q dec_str)
    | _ => exact absurd (show false = true from hs) Bool.false_ne_true
  | byt i =>
    obtain ⟨t, rfl⟩ := rx
    cases y with
    | byt j => obtain ⟨t', rfl⟩ := ry; exact PySem.W.eq_bytes (fin_bl I q dec_byt)
    | _ => exact absurd (show false = true from hs) Bool.false_ne_true
  | _ => cases y <;> exact absurd (show false = true from hs) Bool.false_ne_true
theorem op_lt : OpR X (compareOp .Lt) (rI0 fun i j => .bl (decide (i < j))) := opB0 fun _ _ _ _ _ _ _ q => lt_int q
theorem op_le : OpR X (compareOp .LtE) (rI0 fun i j => .bl (decide (i ≤ j))) := opB0 fun _ _ _ _ _ _ _ q => le_int q
theorem op_gt : OpR X (compareOp .Gt) (rI0 fun i j => .bl (decide (j < i))) := opB0 fun _ _ _ _ _ _ _ q => gt_int q
theorem op_ge : OpR X (compareOp .GtE) (rI0 fun i j => .bl (decide (j ≤ i))) := opB0 fun _ _ _ _ _ _ _ q => ge_int q
theorem nomark (b : Expr) {op : CmpOp} (h : op ≠ .In := by decide) (h2 : op ≠ .NotIn := by decide) : behindInMarks op b = false := by
  have e1 : (op == CmpOp.In) = false := by cases op <;> first | rfl | exact absurd rfl h
  have e2 : (op == CmpOp.NotIn) = false := by cases op <;> first | rfl | exact absurd rfl h2
  cases b <;> simp [behindInMarks, e1, e2]
/-- a comparison as a value; hm: nomark b, or (for in, not in) by with_unfolding_all rfl -/
theorem pe_cmpR {op : CmpOp} {r : R2} (ho : OpR X (compareOp op) r) (ha : PE X a ta) (hb : PE X b tb) (hm : behindInMarks op b = false) : PE X (.Compare a [op] [b] pos) (tOp r ta tb) := by
  intro pins s σ H Q I h
  exact wpAny_Compare1 (binT ha hb I h fun v u s2 x y H2 I2 rx ry q => ho pins s2 σ H2 x y v u Q I2 rx ry q) hm
/-- a reading of a value as a test -/
def tTest (t : TE) : TT := fun σ H Q => t σ H fun x H' => ∃ k, x = .bl k ∧ Q k H'
theorem pt_cmpR {op : CmpOp} {r : R2} (ho : OpR X (compareOp op) r) (ha : PE X a ta) (hb : PE X b tb) (hm : behindInMarks op b = false) : PT X (.Compare a [op] [b] pos) (tTest (tOp r ta tb)) := by
  intro pins s σ H Q I h
  refine wpAny_isTrue_Compare1 (thn (ha pins s σ H _ I h) fun v s1 ⟨x, H1, I1, r1, q1⟩ => thn (hb pins s1 σ H1 _ I1 q1) fun u s2 ⟨y, H2, I2, r2, q2⟩ =>
    thn (ho pins s2 σ H2 x y v u _ I2 r1 r2 q2) fun c s3 ⟨z, H3, I3, r3, k, e, q3⟩ => ?_) hm
  subst e
  cases r3
  exact wpAny_truthy_bool ⟨H3, I3, q3⟩
/-- a op1 b op2 c -/
def tChain (r r' : R2) (ta tb tc : TE) : TE := fun σ H Q => ta σ H fun x H1 => tb σ H1 fun y H2 => r x y H2 fun z H3 => ∃ k, z = .bl k ∧
  (if k = true then tc σ H3 fun w' H4 => r' y w' H4 Q else Q (.bl false) H3)
theorem pe_chain {op op' : CmpOp} {r r' : R2} (ho : OpR X (compareOp op) r) (ho' : OpR X (compareOp op') r') (ha : PE X a ta) (hb : PE X b tb) (hc : PE X c tc)
    (hm : lastMarks [op, op'] [b, c] = false := by with_unfolding_all rfl) : PE X (.Compare a [op, op'] [b, c] pos) (tChain r r' ta tb tc) := by
  intro pins s σ H Q I h
  refine Compare_chain (thn (ha pins s σ H _ I h) fun v s1 ⟨x, H1, I1, r1, q1⟩ => chain_link (thn (hb pins s1 σ H1 _ I1 q1) fun u s2 ⟨y, H2, I2, r2, q2⟩ =>
    thn (ho pins s2 σ H2 x y v u _ I2 r1 r2 q2) fun d s3 ⟨z, H3, I3, r3, k, e, q3⟩ => ?_)) hm
  subst e
  cases r3
  refine wpAny_truthy_bool ?_
  cases k with
  | false => exact ite_ff ⟨.bl false, H3, I3, rfl, q3⟩
  | true => exact ite_tt (chain_last (thn (hc pins s3 σ H3 _ I3 q3) fun w' s4 ⟨z', H4, I4, r4, q4⟩ => ho' pins s4 σ H4 y z' u w' Q I4 r2 r4 q4))
/-! ### truth -/
theorem line63 : (sizeLine : Nat) < 2 ^ 63 := by rw [sizeLine_eq]; decide
/-! ### strs and bytes -/
theorem op_add_str : OpR X (binaryOp .Add) (fun x y H Q => ∃ i j, x = .str i ∧ y = .str j ∧ i.length + j.length ≤ sizeLine ∧ Q (.str (i ++ j)) H) := by
  intro pins s σ H x y v u Q I rx ry h
  obtain ⟨i, j, rfl, rfl, hz, q⟩ := h
  obtain ⟨t, rfl⟩ := rx
  obtain ⟨t', rfl⟩ := ry
  exact add_str (fun t' tk => ⟨.str (i ++ j), H, I.tok _, ⟨_, rfl⟩, q⟩) hz
/-! ### scalar builtins, by CallR -/
theorem vals1 {x : V} {us : List Value} (r : Vals [x] us) : ∃ u, us = [u] ∧ RelV x u := by
  cases r with
  | cons r1 r2 => cases r2; exact ⟨_, rfl, r1⟩
theorem call_str_int : CallR X (.type "str") (fun xs H Q => ∃ i, xs = [.int i] ∧ i.natAbs.log2 < 1920 ∧ Q (.str (toString i)) H) := by
  intro pins s σ H xs us Q I r h
  obtain ⟨i, rfl, hz, q⟩ := h
  obtain ⟨u, rfl, t, rfl⟩ := vals1 r
  exact PySem.P.str_of_int hz ⟨.str _, H, I.tok _, ⟨_, rfl⟩, q⟩
theorem call_ord : CallR X (.builtin "ord") (fun xs H Q => ∃ x, xs = [.str x] ∧ x.length = 1 ∧ Q (.int (x.cps.getD 0 0 : Nat)) H) := by
  intro pins s σ H xs us Q I r h
  obtain ⟨x, rfl, hz, q⟩ := h
  obtain ⟨u, rfl, t, rfl⟩ := vals1 r
  exact ord_of_one hz ⟨.int _, H, I.tok _, ⟨_, rfl⟩, q⟩
end
end L2

namespace L2
open PySem PySem.Spec PyProof.Rows

/-! ### an instance, its attributes a map -/
structure ObjM (h : Heap) (x dx C : Addr) (mA : Str → Option Value) : Prop where
  obj : h.get? x = some (PySem.W.instObj C dx)
  ns : h.Ns1 dx mA
  ne : dx ≠ x

theorem lookIn_ns {h : Heap} {dx : Addr} {mA : Str → Option Value} (n : h.Ns1 dx mA) : ∃ od, h.get? dx = some od ∧ ∀ name, PySem.W.lookIn name od = some (mA name) := by
  obtain ⟨o, es, ep, ho, hd, hk, _, hm⟩ := n
  refine ⟨o, ho, fun name => ?_⟩
  have e := hm name
  unfold nsFind findBy at e
  rw [← Array.find?_toList] at e
  unfold PySem.W.lookIn
  rw [hd]
  dsimp only
  split
  · rename_i y q
    rw [q] at e
    exact congrArg some e
  · rename_i q
    rw [q] at e
    have a : es.toList.any (·.refKey) = false := by
      rw [List.any_eq_false]
      intro y hy
      obtain ⟨z, t, hkey⟩ := hk y (Array.mem_toList_iff.mp hy)
      simp [DictEntry.refKey, hkey]
    have a' : ¬ es.toList.any (·.refKey) = true := by rw [a]; exact Bool.false_ne_true
    rw [if_neg a']
    exact congrArg some e

theorem ObjM.look {h : Heap} {x dx C : Addr} {mA : Str → Option Value} (I : ObjM h x dx C mA) : ∃ od, PySem.W.InstAt h x (PySem.W.instObj C dx) C (some od) ∧ ∀ name, PySem.W.lookIn name od = some (mA name) :=
  let ⟨od, ho, hl⟩ := lookIn_ns I.ns
  ⟨od, ⟨I.obj, rfl, rfl, ho⟩, hl⟩

section
variable {prog : Program} {w : World} {A : Around} {E : Value → Shared → Prop} {s : Shared} {K : PySem.W.Frag} {x dx C f : Addr} {mA : Str → Option Value} {name : Str} {v : Value}

theorem get_map {expr : Bool} {Q : Value → Shared → Prop} (X : K.In s.heap) (I : ObjM s.heap x dx C mA) (hg : PySem.W.plainGet K C name = true) (hh : PySem.W.hasDictIn K C = true)
    (ha : PySem.W.findIn K (.ref C) name = some none) (hv : mA name = some v) (hv' : PySem.W.handedIn v = true) (h : Q v { s with toks := s.toks + 1 }) :
    wpAny (model prog w) A (getAttr (.ref x) name expr) Q E s := by
  obtain ⟨od, J, hl⟩ := I.look
  exact PySem.W.get_value X J (PySem.W.plainGet_of hg).1 (PySem.W.findObj_own hh ha rfl (by rw [hl, hv])) hv' h

theorem get_meth {pl : Sem Bool} {Q : Value × List Value → Shared → Prop} (X : K.In s.heap) (I : ObjM s.heap x dx C mA) (hg : PySem.W.plainGet K C name = true)
    (hf : PySem.W.findIn K (.ref C) name = some (some (.ref f))) (ht : PySem.W.isFn K (.ref f) = true) (hv : mA name = none) (h : Q (.ref f, [.ref x]) s) :
    wpAny (model prog w) A (getMethod (.ref x) name pl) Q E s := by
  obtain ⟨od, J, hl⟩ := I.look
  exact PySem.W.method_fn X J (PySem.W.plainGet_of hg).1 (PySem.W.plainGet_of hg).2 hf (beq_iff_eq.mp ht) (by show (PySem.W.lookIn name od).map (·.isSome) = some false; rw [hl, hv]; rfl) h

theorem set_map {ns : List Str} {Q : Unit → Shared → Prop} (X : K.In s.heap) (I : ObjM s.heap x dx C mA)
    (hs : PySem.W.findIn K (.ref C) "__setattr__" = some (some (.builtin "object.__setattr__"))) (hp : PySem.W.plainOver K C = true) (ht : PySem.W.takerIn K C name = some none) (hh : PySem.W.hasDictIn K C = true)
    (hw : PySem.Within mA ns) (hsz : ns.length ≤ sizeLine)
    (h : ∀ h', ObjM h' x dx C (fun y => if y = name then some v else mA y) → Heap.SameBut dx s.heap h' → Q () { s with heap := h', toks := s.toks + 2 }) :
    wpAny (model prog w) A (setAttr (.ref x) name v) Q E s := by
  obtain ⟨od, J, hl⟩ := I.look
  refine PySem.W.set_plain X J hs (PySem.W.osa_open (s := { s with toks := s.toks + 1 }) (r := none) X J hp ht fun b => ?_)
  obtain ⟨cd, hc, hd'⟩ := PySem.W.any_some hh
  have hx : s.heap.get? x = some ⟨.ref C, some dx, .plain, #[]⟩ := I.obj
  refine wpAny_bind (wpAny_pure (wpAny_bind (wpAny_bind (wpAny_loadPart hx (wpAny_bind (PySem.W.Looks.here (s := { s with toks := s.toks + 1 }) (PySem.W.looks_clsIn X hc) ?_))))))
  rw [hd']
  refine wpAny_pure (a := some dx) (wpAny_bind (wpAny_pure (wpAny_bind ?_)))
  refine wpAny_nsSet1 (s := { s with toks := s.toks + 1 }) I.ns fun h' hn2 hs2 => ?_
  obtain ⟨oD, esD, epD, hoD, hdD, hcD⟩ := hn2.count (PySem.Within.cons name v hw)
  refine wpAny_bind (wpAny_lookBehind hoD (by rw [hdD]; exact pastItsLine_dict (Nat.le_trans hcD (by rw [List.length_cons]; omega))) ?_)
  exact wpAny_pure (h _ ⟨(hs2.2 _ (Ne.symm I.ne)).trans I.obj, hn2, I.ne⟩ hs2)

/-- C(..): the dict at the heap's end, the instance behind it; then its __init__ -/
theorem make_map {R : Result → Shared → Prop} {vs : List Value} {kw : List (Str × Value)} (X : K.In s.heap) (hm : PySem.W.makesIn K C = true)
    (hi : PySem.W.findIn K (.ref C) "__init__" = some (some (.ref f))) (hf : PySem.W.typeIn K (.ref f) = some (.type "function"))
    (h : codeAny (model prog w) (A.under (.builtin "type.__call__" ⟨.ref C :: vs, kw⟩)) (.call (.ref f) ⟨.ref (s.heap.objs.size + 1) :: vs, kw⟩) (PySem.W.InitBack (s.heap.objs.size + 1) R)
      { s with heap := (s.heap.push PySem.W.emptyDict).push (PySem.W.instObj C s.heap.objs.size) }) :
    codeAny (model prog w) A (.call (.ref C) ⟨vs, kw⟩) R s := by
  obtain ⟨hh, g, d, t, os⟩ := s
  exact PySem.W.make_core (PySem.W.makes_of X hm) (PySem.W.looks_findIn X hi) (fun self => PySem.W.bind_fn X self hf) (.inl rfl) h
end

/-! ### the attributes as a list of pairs -/
def putF (f : Str) (v : V) : List (Str × V) → List (Str × V)
  | [] => [(f, v)]
  | (g, x) :: r => if g = f then (g, v) :: r else (g, x) :: putF f v r
theorem lookup_putF (f g : Str) (v : V) : ∀ fs : List (Str × V), (putF f v fs).lookup g = if g = f then some v else fs.lookup g
  | [] => by
    show List.lookup g [(f, v)] = _
    by_cases h : g = f
    · have hb : (g == f) = true := beq_iff_eq.mpr h
      simp only [List.lookup, hb, if_pos h]
    · have hb : (g == f) = false := beq_eq_false_iff_ne.mpr h
      simp only [List.lookup, hb, if_neg h]
  | (k, x) :: r => by
    have ih := lookup_putF f g v r
    rw [show putF f v ((k, x) :: r) = (if k = f then (k, v) :: r else (k, x) :: putF f v r) from rfl]
    by_cases hk : k = f
    · rw [if_pos hk]
      by_cases h : g = k
      · have hb : (g == k) = true := beq_iff_eq.mpr h
        simp only [List.lookup, hb, if_pos (h.trans hk)]
      · have hb : (g == k) = false := beq_eq_false_iff_ne.mpr h
        simp only [List.lookup, hb, if_neg (fun e : g = f => h (e.trans hk.symm))]
    · rw [if_neg hk]
      by_cases h : g = k
      · have hb : (g == k) = true := beq_iff_eq.mpr h
        simp only [List.lookup, hb, if_neg (fun e : g = f => hk (h.symm.trans e))]
      · have hb : (g == k) = false := beq_eq_false_iff_ne.mpr h
        simp only [List.lookup, hb]
        exact ih
theorem keys_putF (f : Str) (v : V) : ∀ fs : List (Str × V), f ∈ (putF f v fs).map (·.1) ∧ ∀ g, g ∈ fs.map (·.1) → g ∈ (putF f v fs).map (·.1)
  | [] => ⟨by simp [putF], fun g h => by simp at h⟩
  | (k, x) :: r => by
    obtain ⟨i1, i2⟩ := keys_putF f v r
    rw [show putF f v ((k, x) :: r) = (if k = f then (k, v) :: r else (k, x) :: putF f v r) from rfl]
    by_cases hk : k = f
    · rw [if_pos hk]
      subst hk
      exact ⟨by simp, fun g h => by simpa using h⟩
    · rw [if_neg hk]
      refine ⟨?_, fun g h => ?_⟩
      · rw [List.map_cons]
        exact List.mem_cons_of_mem _ i1
      · rw [List.map_cons] at h ⊢
        rcases List.mem_cons.mp h with e | e
        · exact List.mem_cons.mpr (.inl e)
        · exact List.mem_cons_of_mem _ (i2 g e)
theorem length_putF (f : Str) (v : V) : ∀ fs : List (Str × V), (putF f v fs).length ≤ fs.length + 1
  | [] => by simp [putF]
  | (k, x) :: r => by
    have ih := length_putF f v r
    rw [show putF f v ((k, x) :: r) = (if k = f then (k, v) :: r else (k, x) :: putF f v r) from rfl]
    by_cases hk : k = f
    · rw [if_pos hk, List.length_cons, List.length_cons]; omega
    · rw [if_neg hk, List.length_cons, List.length_cons]; omega

theorem RelO.some_of {v : V} {o : Option Value} (r : RelO (some v) o) : ∃ u, o = some u ∧ RelV v u := by
  cases o with
  | none => exact (show False from r).elim
  | some u => exact ⟨u, rfl, r⟩
theorem RelO.none_of {o : Option Value} (r : RelO none o) : o = none := by
  cases o with
  | none => rfl
  | some u => exact (show False from r).elim
theorem handed_of {v : V} {u : Value} (r : RelV v u) : PySem.W.handedIn u = true := by
  cases v with
  | non => cases (show u = Value.none from r); rfl
  | bl b => cases (show u = Value.bool b from r); rfl
  | int i => obtain ⟨t, e⟩ := (show ∃ t, u = Value.int i t from r); cases e; rfl
  | str x => obtain ⟨t, e⟩ := (show ∃ t, u = Value.str x t from r); cases e; rfl
  | byt b => obtain ⟨t, e⟩ := (show ∃ t, u = Value.bytes b t from r); cases e; rfl
  | flt b => obtain ⟨t, e⟩ := (show ∃ t, u = Value.float b t from r); cases e; rfl
  | ref a => cases (show u = Value.ref a from r); rfl
  | ty n => cases (show u = Value.type n from r); rfl

section
variable {P : Program} {w : World} {H H' : Hp} {h h' : Heap} {a C dx : Addr} {fs fs' : List (Str × V)}
theorem ins_get (hok : HOk P w H h) (e : H a = some (.ins C dx fs)) : ∃ mA, ObjM h a dx C mA ∧ (∀ f, RelO (fs.lookup f) (mA f)) ∧ PySem.Within mA (fs.map (·.1)) ∧ fs.length ≤ 1000 ∧ H dx = some (.own a) := by
  obtain ⟨d, z, ne, ob, mA, n, r, q⟩ := (show ObjOk P w H h a (.ins C dx fs) from hok a _ e)
  exact ⟨mA, ⟨ob, n, ne⟩, r, q, z, d⟩
end

/-! ### what of the text a class must have -/
structure Cls (K : PySem.W.Frag) (C : Addr) : Prop where
  pg : PySem.W.plainGet K C Str.empty = true
  hd : PySem.W.hasDictIn K C = true
  po : PySem.W.plainOver K C = true
  sa : PySem.W.findIn K (.ref C) "__setattr__" = some (some (.builtin "object.__setattr__"))
theorem Cls.get {K : PySem.W.Frag} {C : Addr} (c : Cls K C) (f : Str) : PySem.W.plainGet K C f = true := c.pg
/-- no class of it has the name -/
def NoAttr (K : PySem.W.Frag) (C : Addr) (f : Str) : Prop := PySem.W.findIn K (.ref C) f = some none
theorem NoAttr.taker {K : PySem.W.Frag} {C : Addr} {f : Str} (n : NoAttr K C f) : PySem.W.takerIn K C f = some none := by
  unfold PySem.W.takerIn
  rw [show PySem.W.findIn K (.ref C) f = some none from n]
  rfl
/-- a method: a plain def of the class or of one above it -/
structure Meth (K : PySem.W.Frag) (C : Addr) (m : Str) (f : Addr) : Prop where
  at_ : PySem.W.findIn K (.ref C) m = some (some (.ref f))
  fn : PySem.W.isFn K (.ref f) = true
  kp : PySem.W.keepIn K (.ref f) = true

section
variable {X : Cx} {pins : List (Addr × Obj)} {σ : St} {H : Hp} {s : Shared} {a C dx : Addr} {fs : List (Str × V)} {f : Str} {v : V} {A : Around} {E : Value → Shared → Prop}

theorem getattr_ok {b : Bool} {Q : Value → Shared → Prop} (I : Inv X pins σ H s) (e : H a = some (.ins C dx fs)) (c : Cls X.K C) (n : NoAttr X.K C f) (l : fs.lookup f = some v)
    (h : ∀ u s', Inv X pins σ H s' → RelV v u → Q u s') : wpAny (model X.prog X.w) A (getAttr (.ref a) f b) Q E s := by
  obtain ⟨mA, O, r, _, _, _⟩ := ins_get I.hok e
  obtain ⟨u, hu, ru⟩ := RelO.some_of (v := v) (o := mA f) (by rw [← l]; exact r f)
  exact get_map I.kIn O (c.get f) c.hd n hu (handed_of ru) (h u _ (I.tok _) ru)

theorem getmeth_ok {m : Str} {g : Addr} {pl : Sem Bool} {Q : Value × List Value → Shared → Prop} (I : Inv X pins σ H s) (e : H a = some (.ins C dx fs)) (c : Cls X.K C) (k : Meth X.K C m g) (l : fs.lookup m = none)
    (h : Q (.ref g, [.ref a]) s) : wpAny (model X.prog X.w) A (getMethod (.ref a) m pl) Q E s := by
  obtain ⟨mA, O, r, _, _, _⟩ := ins_get I.hok e
  have hn : mA m = none := RelO.none_of (by rw [← l]; exact r m)
  exact get_meth I.kIn O (c.get m) k.at_ k.fn hn h

theorem setattr_ok {y : V} {u : Value} {Q : Unit → Shared → Prop} (I : Inv X pins σ H s) (e : H a = some (.ins C dx fs)) (c : Cls X.K C) (n : NoAttr X.K C f) (hl : fs.length < 1000) (ry : RelV y u)
    (h : ∀ s', Inv X pins σ (upd H a (.ins C dx (putF f y fs))) s' → Q () s') : wpAny (model X.prog X.w) A (setAttr (.ref a) f u) Q E s := by
  obtain ⟨mA, O, r, wi, _, ho⟩ := ins_get I.hok e
  have hz : (fs.map (·.1)).length ≤ sizeLine := by rw [List.length_map, sizeLine_eq]; omega
  refine set_map I.kIn O c.sa c.po n.taker c.hd wi hz fun h' O' sb => h _ ?_
  have hd : ∃ o, h'.get? dx = some o := let ⟨o, _, _, e', _⟩ := O'.ns; ⟨o, e'⟩
  refine I.write (x := a) (e := dx) (by rw [e]; exact True.intro) (.inr ho) (fun b q hb z => (sb.2 b hb).trans z) hd ?_
  refine ⟨by rw [upd_ne O.ne]; exact ho, ?_, O.ne, O'.obj, _, O'.ns, fun g => ?_, fun g hg => ?_⟩
  · have := length_putF f y fs; omega
  · show RelO ((putF f y fs).lookup g) (if g = f then some u else mA g)
    rw [lookup_putF]
    by_cases q : g = f
    · rw [if_pos q, if_pos q]; exact ry
    · rw [if_neg q, if_neg q]; exact r g
  · by_cases q : g = f
    · rw [q]; exact (keys_putF f y fs).1
    · refine (keys_putF f y fs).2 g (wi g fun z => hg ?_)
      show (if g = f then some u else mA g) = none
      rw [if_neg q]; exact z

/-- a new instance, tracked, without attributes -/
theorem Inv.made (I : Inv X pins σ H s) : Inv X pins σ (upd (upd H s.heap.objs.size (.own (s.heap.objs.size + 1))) (s.heap.objs.size + 1) (.ins C s.heap.objs.size []))
    { s with heap := (s.heap.push PySem.W.emptyDict).push (PySem.W.instObj C s.heap.objs.size) } := by
  have e1 : (s.heap.push PySem.W.emptyDict).get? s.heap.objs.size = some PySem.W.emptyDict := Heap.get?_push_size s.heap rfl
  have e2 : ((s.heap.push PySem.W.emptyDict).push (PySem.W.instObj C s.heap.objs.size)).get? (s.heap.objs.size + 1) = some (PySem.W.instObj C s.heap.objs.size) := by
    have := Heap.get?_push_size (s.heap.push PySem.W.emptyDict) (o := PySem.W.instObj C s.heap.objs.size) rfl
    rwa [Heap.size_push] at this
  have e3 : (s.heap.push PySem.W.emptyDict).Ns s.heap.objs.size (fun _ => none) := ⟨PySem.W.emptyDict, #[], _, e1, rfl, (fun e he => absurd he (by simp)), fun _ => rfl⟩
  have I1 := I.laid (a := s.heap.objs.size) (o := .own (s.heap.objs.size + 1)) (h' := s.heap.push PySem.W.emptyDict) (t' := s.toks) (fun b u q => Heap.get?_push_of_some _ q) (Nat.le_refl _) ⟨_, e1⟩
  refine I1.laid (a := s.heap.objs.size + 1) (o := .ins C s.heap.objs.size []) (t' := s.toks) (fun b u q => Heap.get?_push_of_some _ q) (Nat.le_of_eq (Heap.size_push _ _)) ?_
  have ne : s.heap.objs.size ≠ s.heap.objs.size + 1 := Nat.ne_of_lt (Nat.lt_succ_self _)
  refine ⟨by rw [upd_ne ne, upd_same], Nat.zero_le _, ne, e2, fun _ => none, (Heap.Ns1.of_empty e3).at fun o q => Heap.get?_push_of_some _ q, fun _ => True.intro, fun y hy => absurd rfl hy⟩

/-- e.f where nothing but the object is asked: through attributeBase (super) and the last hold -/
theorem attr_of {prog : Program} {w : World} {env : Env} {e : Expr} {f : Str} {pos : Pos} {s : Shared} {Q : Value → Shared → Prop} (hb : attributeBase e f env (eval e env) = eval e env)
    (h : wpAny (model prog w) A (eval e env) (fun o s₁ => wpAny (model prog w) A (getAttr o f true) Q E s₁) E s) : wpAny (model prog w) A (eval (.Attribute e f pos) env) Q E s :=
  Attribute_any_ h (by rw [arm_eval_Attribute, hb])
end

/-! ### readings and rules -/
/-- e.f, an attribute of the instance -/
def tFld (K : PySem.W.Frag) (ta : TE) (f : Str) : TE := fun σ H Q => ta σ H fun x H1 => ∃ a C dx fs v, x = .ref a ∧ H1 a = some (.ins C dx fs) ∧ Cls K C ∧ NoAttr K C f ∧ fs.lookup f = some v ∧ Q v H1
/-- e.f = value -/
def sFld (K : PySem.W.Frag) (ta tv : TE) (f : Str) : TS := fun D σ H => tv σ H fun y H1 => ta σ H1 fun x H2 => ∃ a C dx fs, x = .ref a ∧ H2 a = some (.ins C dx fs) ∧ Cls K C ∧ NoAttr K C f ∧ fs.length < 1000 ∧
  D.nx σ (upd H2 a (.ins C dx (putF f y fs)))
/-- an augmented operator on two values -/
def InOp (X : Cx) (op : Operator) (rd : V → V → Hp → VK → Prop) : Prop :=
  ∀ (pins : List (Addr × Obj)) (s : Shared) (σ : St) (H : Hp) (x y : V) (u v : Value) (Q : VK), Inv X pins σ H s → RelV x u → RelV y v → rd x y H Q → wpAny (model X.prog X.w) X.A (inplaceOp op u v) (EP X pins σ Q) X.xe s
/-- e.f op= value -/
def sFldAug (K : PySem.W.Frag) (ta tv : TE) (rd : V → V → Hp → VK → Prop) (f : Str) : TS := fun D σ H => ta σ H fun x H1 => ∃ a C dx fs v, x = .ref a ∧ H1 a = some (.ins C dx fs) ∧ Cls K C ∧ NoAttr K C f ∧ fs.lookup f = some v ∧
  tv σ H1 fun y H2 => rd v y H2 fun z H3 => ∃ dx' fs', H3 a = some (.ins C dx' fs') ∧ fs'.length < 1000 ∧ D.nx σ (upd H3 a (.ins C dx' (putF f z fs')))

section
variable {X : Cx} {o e value : Expr} {f : Str} {pos pos' tpos : Pos} {ta tv : TE}
theorem pe_fld (he : PE X e ta) (hb : attributeBase e f X.env (eval e X.env) = eval e X.env) : PE X (.Attribute e f pos) (tFld X.K ta f) := by
  intro pins s σ H Q I h
  refine attr_of hb (thn (he pins s σ H _ I h) fun u s1 ⟨x, H1, I1, rx, a, C, dx, fs, v, ex, ea, c, n, l, q⟩ => ?_)
  subst ex
  obtain rfl : u = Value.ref a := rx
  exact getattr_ok I1 ea c n l fun u' s2 I2 ru => ⟨v, H1, I2, ru, q⟩
theorem ps_fld (ha : PE X o ta) (hv : PE X value tv) (hs : swapsWith value (some (.Attribute o f pos')) pos.line X.env = pure false) : PS X (.Assign [.Attribute o f pos'] value pos) (sFld X.K ta tv f) := by
  intro pins s σ H D I h
  refine plainObj_wpAny_Assign_Attribute (thn (hv pins s σ H _ I h) fun u s1 ⟨y, H1, I1, ry, q⟩ => thn (ha pins s1 σ H1 _ I1 q) fun ov s2 ⟨x, H2, I2, rx, a, C, dx, fs, ex, ea, c, n, l, q2⟩ => ?_) hs
  subst ex
  obtain rfl : ov = Value.ref a := rx
  exact setattr_ok I2 ea c n l ry fun s3 I3 => ⟨σ, _, I3, q2⟩
theorem ps_fldaug {op : Operator} {rd : V → V → Hp → VK → Prop} (ha : PE X o ta) (hv : PE X value tv) (hop : InOp X op rd) : PS X (.AugAssign (.Attribute o f tpos) op value pos) (sFldAug X.K ta tv rd f) := by
  intro pins s σ H D I h
  refine wpAny_AugAssign_AttributeAny (thn (ha pins s σ H _ I h) fun ov s1 ⟨x, H1, I1, rx, a, C, dx, fs, v, ex, ea, c, n, l, q⟩ => ?_)
  subst ex
  obtain rfl : ov = Value.ref a := rx
  refine getattr_ok I1 ea c n l fun u s2 I2 ru => thn (hv pins s2 σ H1 _ I2 q) fun w3 s3 ⟨y, H2, I3, ry, q3⟩ => thn (hop pins s3 σ H2 v y u w3 _ I3 ru ry q3) fun w4 s4 ⟨z, H3, I4, rz, dx', fs', ea', l', q4⟩ => ?_
  exact setattr_ok I4 ea' c n l' rz fun s5 I5 => ⟨σ, _, I5, q4⟩
def rAdd : V → V → Hp → VK → Prop := fun x y H Q => ∃ i j, x = .int i ∧ y = .int j ∧ Q (.int (i + j)) H
theorem in_add : InOp X .Add rAdd := by
  rintro pins s σ H x y u v Q I rx ry ⟨i, j, rfl, rfl, q⟩
  obtain ⟨t, rfl⟩ := (show ∃ t, u = Value.int i t from rx)
  obtain ⟨t', rfl⟩ := (show ∃ t', v = Value.int j t' from ry)
  exact PyProof.Rows.iadd_int ⟨.int (i + j), H, I.tok _, ⟨_, rfl⟩, q⟩
end

/-! ### isinstance -/
section
variable {X : Cx} {pins : List (Addr × Obj)} {σ : St} {H : Hp} {s : Shared} {A : Around} {E : Value → Shared → Prop} {Q : Value → Shared → Prop} {c : Value} {b : Bool}
end
end L2

namespace L2
open PySem PySem.Spec PyProof.Rows

/-! ### room -/
structure Room (k : Nat) (A : Around) : Prop where
  hd : A.handled = none
  dp : A.depth + 3 * k + 5 < recursionLimit
  un : A.units + 16 * k + 200 < cLine
theorem Room.mono {j k : Nat} {A : Around} (r : Room k A) (h : j ≤ k) : Room j A := ⟨r.hd, by have := r.dp; omega, by have := r.un; omega⟩
theorem Room.deeper {k : Nat} {A : Around} (r : Room (k + 1) A) (env : Env) : Room k (A.deeper env) :=
  ⟨r.hd, by have := r.dp; show A.depth + 1 + 3 * k + 5 < _; omega, by have := r.un; show A.units + 3 + 16 * k + 200 < _; omega⟩
theorem make_depth {A : Around} {C : Addr} {us : List Value} {kw : List (Str × Value)} : (A.under (.builtin "type.__call__" ⟨.ref C :: us, kw⟩)).depth = A.depth + 1 := by
  first | rfl | simp [Around.under, Code.weight, Code.isCreation, Code.isGuard, Code.isCaller, Code.frames, Code.isFrame, guardIds]
theorem make_units {A : Around} {C : Addr} {us : List Value} {kw : List (Str × Value)} : (A.under (.builtin "type.__call__" ⟨.ref C :: us, kw⟩)).units = A.units + 1 := by
  first | rfl | simp [Around.under, Code.cUnits, Code.frames, Code.isFrame]
theorem Room.make {k : Nat} {A : Around} (r : Room (k + 1) A) (C : Addr) (us : List Value) (kw : List (Str × Value)) : Room k (A.under (.builtin "type.__call__" ⟨.ref C :: us, kw⟩)) :=
  ⟨r.hd, by have := r.dp; rw [make_depth]; omega, by have := r.un; rw [make_units]; omega⟩
theorem Room.depth {k : Nat} {A : Around} (r : Room k A) : A.depth < recursionLimit := by have := r.dp; omega
/-! ### argument lists and displays -/
def tNil : TA := fun _ H Q => Q [] H
def tCons (ta : TE) (tr : TA) : TA := fun σ H Q => ta σ H fun x H1 => tr σ H1 fun xs H2 => Q (x :: xs) H2
section
variable {X : Cx} {e : Expr} {es : List Expr} {te : TE} {t : TA} {pos : Pos}
theorem pa_nil : PA X [] tNil := fun _ _ _ _ H Q I h => Calls.spliced_nil ⟨[], H, I, .nil, h⟩
theorem pa_cons (ha : PE X e te) (hr : PA X es t) (hs : starEach (e :: es) X.env = (false, eval e X.env) :: starEach es X.env := by rfl) : PA X (e :: es) (tCons te t) := by
  intro pos pins s σ H Q I h
  rw [hs]
  show wpAny _ _ (spliced ((false, eval e X.env) :: backTo pos (starEach es X.env))) _ _ s
  refine Calls.spliced_cons (thn (ha pins s σ H _ I h) fun u s1 ⟨x, H1, I1, r1, q1⟩ => ?_)
  exact thn (hr pos pins s1 σ H1 _ I1 q1) fun us s2 ⟨xs, H2, I2, r2, q2⟩ => ⟨x :: xs, H2, I2, .cons r1 r2, q2⟩

/-- a tuple, a list of written items -/
def tTup (t : TA) : TE := fun σ H Q => t σ H fun xs H1 => xs.length ≤ sizeLine ∧ ∀ p, H1 p = none → Q (.ref p) (upd H1 p (.tup xs))
def tLst (t : TA) : TE := fun σ H Q => t σ H fun xs H1 => xs.length ≤ sizeLine ∧ ∀ p, H1 p = none → Q (.ref p) (upd H1 p (.lst xs))
theorem pe_tup {x1} (h : PA X es t) : PE X (.Tuple es x1 pos) (tTup t) := by
  intro pins s σ H Q I hq
  refine wpAny_Tuple_spliced (thn (h pos pins s σ H _ I hq) fun us s1 ⟨xs, H1, I1, r, z, q⟩ => ⟨by rw [← r.length]; exact z, ?_⟩)
  have hf : H1 s1.heap.objs.size = none := I1.hok.fresh (Nat.le_refl _)
  refine ⟨.ref s1.heap.objs.size, upd H1 s1.heap.objs.size (.tup xs), I1.laid (t' := s1.toks) (fun b u e => Heap.get?_push_of_some _ e) (Nat.le_refl _) ?_, rfl, q _ hf⟩
  exact ⟨z, us, r, ⟨_, Heap.get?_push_size _ rfl, rfl, _, rfl⟩⟩
theorem pe_lst (h : PA X es t) : PE X (.List es pos) (tLst t) := by
  intro pins s σ H Q I hq
  refine wpAny_List_spliced (thn (h pos pins s σ H _ I hq) fun us s1 ⟨xs, H1, I1, r, z, q⟩ => ⟨by rw [← r.length]; exact z, ?_⟩)
  have hf : H1 s1.heap.objs.size = none := I1.hok.fresh (Nat.le_refl _)
  refine ⟨.ref s1.heap.objs.size, upd H1 s1.heap.objs.size (.lst xs), I1.laid (t' := s1.toks) (fun b u e => Heap.get?_push_of_some _ e) (Nat.le_refl _) ?_, rfl, q _ hf⟩
  exact ⟨z, us, 0, r, Heap.get?_push_size _ rfl⟩
end

/-! ### what a def promises -/
/-- a def's promise: the bound arguments in the parameters' order, the heap, the wanted end, the wanted exception -/
abbrev Sp := List V → Hp → VK → XK → Prop
/-- how an exception lies behind a call (file 08 gives it): the callers' frames, abstract heap and state ahead of the call, the wish, the exception, the state -/
abbrev CXT := List Env → Hp → Shared → XK → Value → Shared → Prop

/-- the state at a call -/
structure Env0 (P : Program) (w : World) (K : PySem.W.Frag) (mg : Str → Option Value) (base : Heap) (A : Around) (outer : List Env) (s : Shared) (H : Hp) : Prop where
  frames : A.frames = some outer
  mod : Mod K mg base
  bs : ∀ b o, base.get? b = some o → s.heap.get? b = some o ∧ H b = none
  bsz : base.objs.size ≤ s.heap.objs.size
  funs : s.heap.FunFrames base outer
  frf : ∀ b ∈ frs outer, H b = none
  hok : HOk P w H s.heap
  bare : AllBare s.gens
/-- a call's end -/
def CE (outer : List Env) (P : Program) (w : World) (H : Hp) (s : Shared) (Q : VK) (u : Value) (s' : Shared) : Prop :=
  ∃ v H', s'.os = s.os ∧ AllBare s'.gens ∧ Un (frs outer) [] H H' s.heap s'.heap ∧ HOk P w H' s'.heap ∧ RelV v u ∧ Q v H'
def CR (CX : CXT) (outer : List Env) (P : Program) (w : World) (H : Hp) (s : Shared) (Q : VK) (E : XK) (r : Result) (s' : Shared) : Prop :=
  match r with
  | .ok (.ret u) => CE outer P w H s Q u s'
  | .ok _ => False
  | .error e => CX outer H s E e s'
structure FnOk (P : Program) (w : World) (K : PySem.W.Frag) (mg : Str → Option Value) (base : Heap) (CX : CXT) (k : Nat) (f : Addr) (fd : FuncData) (ps : List Str) (sp : Sp) : Prop where
  len : ∀ vs H Q E, sp vs H Q E → vs.length = ps.length
  run : ∀ (A : Around) (outer : List Env) (s : Shared) (H : Hp) (args : Args) (us : List Value) (vs : List V) (Q : VK) (E : XK), Room k A → Env0 P w K mg base A outer s H → BindsTo s fd args (ps.zip us) → Vals vs us → sp vs H Q E →
    codeAny (model P w) A (.call (.ref f) args) (CR CX outer P w H s Q E) s
theorem Env0.make {P : Program} {w : World} {K : PySem.W.Frag} {mg : Str → Option Value} {base : Heap} {A : Around} {outer : List Env} {s : Shared} {H : Hp} (e : Env0 P w K mg base A outer s H) (C : Addr) (us : List Value) (kw : List (Str × Value)) :
    Env0 P w K mg base (A.under (.builtin "type.__call__" ⟨.ref C :: us, kw⟩)) outer s H := ⟨by first | exact e.frames | (simpa [Around.under, Code.envs, Code.isFrame, pushEnvs] using e.frames), e.mod, e.bs, e.bsz, e.funs, e.frf, e.hok, e.bare⟩
section
variable {X : Cx} {pins : List (Addr × Obj)} {σ : St} {H : Hp} {s s' : Shared}
/-- from a body: what a callee wants -/
theorem Inv.env0 (I : Inv X pins σ H s) : Env0 X.prog X.w X.K X.mg X.base X.A X.stack s H :=
  ⟨I.ok.frames, I.ok.mod, I.bs, Nat.le_trans I.ok.bsz I.sz, I.stack, I.stkFree, I.hok, I.bare⟩
/-- behind a call -/
theorem Inv.after {Q : VK} {u : Value} (I : Inv X pins σ H s) (h : CE X.stack X.prog X.w H s Q u s') : EP X pins σ Q u s' := by
  obtain ⟨v, H', os, bare, un, hok, r, q⟩ := h
  obtain ⟨hh, g, d, t, os'⟩ := s'
  obtain rfl : os' = s.os := os
  exact ⟨v, H', I.call (h' := hh) (g' := g) (d' := d) (t' := t) (ch := []) un hok bare (fun b z => absurd z (by simp)), r, q⟩
end

/-! ### calls -/
/-- f(..): the written arguments, then the defaults dvs; E: what is wanted of an exception -/
def tCall (sp : Sp) (dvs : List V) (E : XK) (t : TA) : TE := fun σ H Q => t σ H fun vs H1 => sp (vs ++ dvs) H1 Q E
/-- o.m(..) of an instance of the class at C -/
def tMeth (C : Addr) (m : Str) (sp : Sp) (dvs : List V) (E : XK) (ta : TE) (t : TA) : TE := fun σ H Q => ta σ H fun x H1 => ∃ a dx fs, x = .ref a ∧ H1 a = some (.ins C dx fs) ∧ fs.lookup m = none ∧
  t σ H1 fun vs H2 => sp (x :: (vs ++ dvs)) H2 Q E
/-- C(..): a new instance and its dict, then __init__ -/
def tMake (C : Addr) (sp : Sp) (dvs : List V) (E : XK) (t : TA) : TE := fun σ H Q => t σ H fun vs H1 => ∀ x dx, H1 x = none → H1 dx = none → dx ≠ x →
  sp (.ref x :: (vs ++ dvs)) (upd (upd H1 dx (.own x)) x (.ins C dx [])) (fun v H2 => v = .non ∧ Q (.ref x) H2) E

/-- how the parameters are bound: us the positional arguments, kw the keywords' values by name, ds the defaults that fill up -/
def Binds (K : PySem.W.Frag) (fd : FuncData) (ps : List Str) (ds : List Value) : Prop :=
  ∀ (s : Shared) (us : List Value), K.In s.heap → (us ++ ds).length = ps.length → BindsTo s fd ⟨us, []⟩ (ps.zip (us ++ ds))
/-- every parameter is given -/
theorem Binds.all {K : PySem.W.Frag} {fd : FuncData} {ps : List Str} (h : ∀ us : List Value, us.length = ps.length → bindArgs fd ⟨us, []⟩ = pure (ps.zip us)) : Binds K fd ps [] := fun s us _ hl => by
  rw [List.append_nil] at hl ⊢
  exact .of_eq (h us hl)

/-- an exception of a callee reaches what this body wants of exceptions -/
def Passes (CX : CXT) (X : Cx) (E : XK) : Prop := ∀ (pins : List (Addr × Obj)) (σ : St) (H : Hp) (s : Shared) (e : Value) (s' : Shared), Inv X pins σ H s → CX X.stack H s E e s' → X.xe e s'

section
variable {X : Cx} {CX : CXT} {k : Nat} {f C : Addr} {fd : FuncData} {ps : List Str} {sp : Sp} {dvs : List V} {ds : List Value} {E : XK} {x m : Str} {p pos apos : Pos} {e o : Expr} {es : List Expr} {ta : TE} {t : TA}

/-- the callee runs -/
theorem run_fn {pins : List (Addr × Obj)} {σ : St} {H : Hp} {s : Shared} {Q : VK} {us : List Value} {vs : List V} (F : FnOk X.prog X.w X.K X.mg X.base CX k f fd ps sp) (hr : Room k X.A) (hb : Binds X.K fd ps ds) (hd : Vals dvs ds) (hx : Passes CX X E)
    (I : Inv X pins σ H s) (r : Vals vs us) (h : sp (vs ++ dvs) H Q E) : wpAny (model X.prog X.w) X.A (call (.ref f) us) (EP X pins σ Q) X.xe s := by
  have r2 : Vals (vs ++ dvs) (us ++ ds) := r.append hd
  have hl : (us ++ ds).length = ps.length := by rw [← r2.length]; exact F.len _ _ _ _ h
  refine wpAny_call (codeAny_mono (F.run X.A X.stack s H ⟨us, []⟩ (us ++ ds) (vs ++ dvs) Q E hr I.env0 (hb s us I.kIn hl) r2 h) fun r s' hq => ?_)
  cases r with
  | error e => exact hx pins σ H s e s' I hq
  | ok fl =>
    cases fl with
    | ret u => exact I.after hq
    | next => exact False.elim hq
    | brk => exact False.elim hq
    | cont => exact False.elim hq

theorem pe_call (F : FnOk X.prog X.w X.K X.mg X.base CX k f fd ps sp) (hr : Room k X.A) (hg : Gl X x) (hm : X.mg x = some (.ref f)) (hk : PySem.W.keepIn X.K (.ref f) = true) (hb : Binds X.K fd ps ds) (hd : Vals dvs ds) (hx : Passes CX X E)
    (ha : PA X (e :: es) t) (hdb : (x == ("__debug__" : Str)) = false := by decide) (he : starEach (e :: es) X.env = (false, eval e X.env) :: starEach es X.env := by rfl) (hpl : (backTo pos (starEach es X.env)).any (·.1) = false := by rfl) :
    PE X (.Call (.Name x p) (e :: es) [] pos) (tCall sp dvs E t) := by
  intro pins s σ H Q I h
  refine wpAny_Call_Name_kw (ld_glob I hg hm ?_ hdb)
  refine PySem.W.callWith_K (h₀ := X.base) I.ok.mod.kin hk (thn (ha pos pins s σ H _ I h) fun us s1 ⟨vs, H1, I1, r, q⟩ => ⟨I1.kIn, ?_⟩) he hpl
  exact run_fn F hr hb hd hx I1 r q
/-- o.m(e, ..) -/
theorem pe_meth {pl : Sem Bool} (he : PE X o ta) (c : Cls X.K C) (hm : Meth X.K C m f) (F : FnOk X.prog X.w X.K X.mg X.base CX k f fd ps sp) (hr : Room k X.A) (hb : Binds X.K fd ps ds) (hd : Vals dvs ds) (hx : Passes CX X E) (ha : PA X (e :: es) t)
    (hst : starEach (e :: es) X.env = (false, eval e X.env) :: starEach es X.env := by rfl) (hpl : (backTo pos (starEach es X.env)).any (·.1) = false := by rfl)
    (ht : eval (.Call (.Attribute o m apos) (e :: es) [] pos) X.env = (do
      let ov ← eval o X.env
      standAt apos.atName
      let (f, first) ← holding [ov] (getMethod ov m pl)
      callWith pos f first (backTo pos (starEach (e :: es) X.env)) (backToKw pos (keywordEach [] X.env))) := by rfl) :
    PE X (.Call (.Attribute o m apos) (e :: es) [] pos) (tMeth C m sp dvs E ta t) := by
  intro pins s σ H Q I h
  refine PySem.W.methodCall_KW (pl := pl) (thn (he pins s σ H _ I h) fun u s1 ⟨x, H1, I1, rx, a, dx, fs, ex, ea, l, q⟩ => ?_) ht
  subst ex
  obtain rfl : u = Value.ref a := rx
  refine getmeth_ok I1 ea c hm l ?_
  refine PySem.W.callWith_K (first := [.ref a]) (h₀ := X.base) I.ok.mod.kin hm.kp (thn (ha pos pins s1 σ H1 _ I1 q) fun us s2 ⟨vs, H2, I2, r, q2⟩ => ⟨I2.kIn, ?_⟩) hst hpl
  exact run_fn (us := .ref a :: us) (vs := .ref a :: vs) F hr hb hd hx I2 (.cons rfl r) q2
/-- o.m() -/
theorem pe_meth0 {pl : Sem Bool} (he : PE X o ta) (c : Cls X.K C) (hm : Meth X.K C m f) (F : FnOk X.prog X.w X.K X.mg X.base CX k f fd ps sp) (hr : Room k X.A) (hb : Binds X.K fd ps ds) (hd : Vals dvs ds) (hx : Passes CX X E)
    (ht : eval (.Call (.Attribute o m apos) [] [] pos) X.env = (do
      let ov ← eval o X.env
      standAt apos.atName
      let (f, first) ← holding [ov] (getMethod ov m pl)
      callWith pos f first (backTo pos (starEach [] X.env)) (backToKw pos (keywordEach [] X.env))) := by rfl) :
    PE X (.Call (.Attribute o m apos) [] [] pos) (tMeth C m sp dvs E ta tNil) := by
  intro pins s σ H Q I h
  refine PySem.W.methodCall_KW (pl := pl) (thn (he pins s σ H _ I h) fun u s1 ⟨x, H1, I1, rx, a, dx, fs, ex, ea, l, q⟩ => ?_) ht
  subst ex
  obtain rfl : u = Value.ref a := rx
  refine getmeth_ok I1 ea c hm l ?_
  exact PySem.W.callWith_K0 (first := [.ref a]) I1.kIn hm.kp (run_fn (us := [.ref a]) (vs := [.ref a]) F hr hb hd hx I1 (.cons rfl .nil) q)

/-- what a class must have to be made -/
structure Mk (K : PySem.W.Frag) (C f : Addr) : Prop where
  makes : PySem.W.makesIn K C = true
  init : PySem.W.findIn K (.ref C) "__init__" = some (some (.ref f))
  fn : PySem.W.isFn K (.ref f) = true
  kp : PySem.W.keepIn K (.ref C) = true

theorem run_make {pins : List (Addr × Obj)} {σ : St} {H : Hp} {s : Shared} {Q : VK} {us : List Value} {vs : List V} (M : Mk X.K C f) (F : FnOk X.prog X.w X.K X.mg X.base CX k f fd ps sp) (hr : Room (k + 1) X.A) (hb : Binds X.K fd ps ds) (hd : Vals dvs ds)
    (hx : Passes CX X E) (I : Inv X pins σ H s) (r : Vals vs us)
    (h : ∀ x dx, H x = none → H dx = none → dx ≠ x → sp (.ref x :: (vs ++ dvs)) (upd (upd H dx (.own x)) x (.ins C dx [])) (fun v H2 => v = .non ∧ Q (.ref x) H2) E) :
    wpAny (model X.prog X.w) X.A (call (.ref C) us) (EP X pins σ Q) X.xe s := by
  have hq := h (s.heap.objs.size + 1) s.heap.objs.size (I.hok.fresh (Nat.le_succ _)) (I.hok.fresh (Nat.le_refl _)) (Nat.ne_of_lt (Nat.lt_succ_self _))
  have I2 := Inv.made (C := C) I
  have r2 : Vals (V.ref (s.heap.objs.size + 1) :: (vs ++ dvs)) (Value.ref (s.heap.objs.size + 1) :: (us ++ ds)) := .cons rfl (r.append hd)
  have hl : (Value.ref (s.heap.objs.size + 1) :: us ++ ds).length = ps.length := by
    have e := r2.length
    rw [F.len _ _ _ _ hq] at e
    exact e.symm
  refine wpAny_call (make_map (f := f) I.kIn M.makes M.init (beq_iff_eq.mp M.fn) (codeAny_mono (F.run _ X.stack _ _ ⟨Value.ref (s.heap.objs.size + 1) :: us, []⟩ (Value.ref (s.heap.objs.size + 1) :: (us ++ ds)) _ _ E (hr.make C us [])
    (I2.env0.make C us []) (hb _ (Value.ref (s.heap.objs.size + 1) :: us) I2.kIn hl) r2 hq) fun r s' hq' => ?_))
  cases r with
  | error e => exact hx pins σ _ _ e s' I2 hq'
  | ok fl =>
    cases fl with
    | ret u =>
      obtain ⟨v, H', I3, rv, ev, q3⟩ := I2.after hq'
      subst ev
      exact ⟨rv, ⟨V.ref (s.heap.objs.size + 1), H', I3, rfl, q3⟩⟩
    | next => exact False.elim hq'
    | brk => exact False.elim hq'
    | cont => exact False.elim hq'
theorem pe_make (M : Mk X.K C f) (F : FnOk X.prog X.w X.K X.mg X.base CX k f fd ps sp) (hr : Room (k + 1) X.A) (hg : Gl X x) (hm : X.mg x = some (.ref C)) (hb : Binds X.K fd ps ds) (hd : Vals dvs ds) (hx : Passes CX X E)
    (ha : PA X (e :: es) t) (hdb : (x == ("__debug__" : Str)) = false := by decide) (he : starEach (e :: es) X.env = (false, eval e X.env) :: starEach es X.env := by rfl) (hpl : (backTo pos (starEach es X.env)).any (·.1) = false := by rfl) :
    PE X (.Call (.Name x p) (e :: es) [] pos) (tMake C sp dvs E t) := by
  intro pins s σ H Q I h
  refine wpAny_Call_Name_kw (ld_glob I hg hm ?_ hdb)
  refine PySem.W.callWith_K (h₀ := X.base) I.ok.mod.kin M.kp (thn (ha pos pins s σ H _ I h) fun us s1 ⟨vs, H1, I1, r, q⟩ => ⟨I1.kIn, ?_⟩) he hpl
  exact run_make M F hr hb hd hx I1 r q
end

/-! ### keywords -/
section
variable {X : Cx} {CX : CXT} {k : Nat} {f C : Addr} {fd : FuncData} {ps ks : List Str} {sp : Sp} {E : XK} {x m : Str} {p pos apos kpos : Pos} {e o : Expr} {es : List Expr} {kws : List Keyword} {te ta : TE} {t tk : TA} {nm : Option Str}
variable {g : List Value → List Value → List Value} {gV : List V → List V → List V}
end

/-! ### a def's body keeps its promise -/
/-- names: the parameters first -/
structure FnScope (N P : List Str) (sc : Scope) : Prop where
  kind : sc.kind = .function
  co : sc.isCoroutine = false
  gen : sc.isGenerator = false
  nd : N.Nodup
  pre : N.take P.length = P
  par : ∀ x ∈ P, sc.names.lookup x = some .local ∨ sc.names.lookup x = some .cell
  nofree : ∀ y ∈ sc.names, y.2 ≠ .free

theorem bindL_out {kindOf : Str → Option NameKind} {x : Str} : ∀ {binds : List (Str × Value)} {m : Str → Option Value}, (∀ v, (x, v) ∉ binds) → bindL kindOf binds m x = m x
  | [], _, _ => rfl
  | (n, v) :: r, m, h => by
    unfold bindL
    rw [bindL_out fun w hw => h w (List.mem_cons_of_mem _ hw)]
    split
    · have : x ≠ n := by rintro rfl; exact h v List.mem_cons_self
      simp [this]
    · rfl
theorem bindC_out {kindOf : Str → Option NameKind} {x : Str} : ∀ {binds : List (Str × Value)} {m : Str → Option Value}, (∀ v, (x, v) ∉ binds) → bindC kindOf binds m x = m x
  | [], _, _ => rfl
  | (n, v) :: r, m, h => by
    unfold bindC
    rw [bindC_out fun w hw => h w (List.mem_cons_of_mem _ hw)]
    split
    · rfl
    · have : x ≠ n := by rintro rfl; exact h v List.mem_cons_self
      simp [this]
theorem bindL_get {kindOf : Str → Option NameKind} {x : Str} {v : Value} : ∀ {P : List Str} {vs : List Value} {i : Nat} {m : Str → Option Value}, P.Nodup → P[i]? = some x → vs[i]? = some v → kindOf x = some .local →
    bindL kindOf (P.zip vs) m x = some v
  | [], _, _, _, _, h, _, _ => by simp at h
  | _ :: _, [], _, _, _, _, h, _ => by simp at h
  | p :: P, w :: vs, 0, m, nd, h1, h2, hk => by
    simp at h1 h2; subst h1; subst h2
    show bindL kindOf ((p, w) :: P.zip vs) m p = _
    unfold bindL
    rw [bindL_out fun v hv => (List.nodup_cons.mp nd).1 (List.of_mem_zip hv).1, if_pos hk]
    simp
  | p :: P, w :: vs, i + 1, m, nd, h1, h2, hk => by
    show bindL kindOf ((p, w) :: P.zip vs) m x = _
    unfold bindL
    exact bindL_get (i := i) (List.nodup_cons.mp nd).2 (by simpa using h1) (by simpa using h2) hk
theorem bindC_get {kindOf : Str → Option NameKind} {x : Str} {v : Value} : ∀ {P : List Str} {vs : List Value} {i : Nat} {m : Str → Option Value}, P.Nodup → P[i]? = some x → vs[i]? = some v → kindOf x ≠ some .local →
    bindC kindOf (P.zip vs) m x = some v
  | [], _, _, _, _, h, _, _ => by simp at h
  | _ :: _, [], _, _, _, _, h, _ => by simp at h
  | p :: P, w :: vs, 0, m, nd, h1, h2, hk => by
    simp at h1 h2; subst h1; subst h2
    show bindC kindOf ((p, w) :: P.zip vs) m p = _
    unfold bindC
    rw [bindC_out fun v hv => (List.nodup_cons.mp nd).1 (List.of_mem_zip hv).1, if_neg hk]
    simp
  | p :: P, w :: vs, i + 1, m, nd, h1, h2, hk => by
    show bindC kindOf ((p, w) :: P.zip vs) m x = _
    unfold bindC
    exact bindC_get (i := i) (List.nodup_cons.mp nd).2 (by simpa using h1) (by simpa using h2) hk

/-- the names' values at the entry -/
def start (N : List Str) (vs : List V) : St := vs.map some ++ List.replicate (N.length - vs.length) none

/-- the context of a def's body, at its entry; an exception leaves the frame, then lies as CX says -/
def cxOf (CX : CXT) (P : Program) (w : World) (K : PySem.W.Frag) (mg : Str → Option Value) (base : Heap) (N : List Str) (qual : Str) (scope : Scope) (f : Addr) (cd : Value) (A : Around) (outer : List Env) (s : Shared) (H : Hp) (E : XK) : Cx where
  prog := P
  w := w
  K := K
  mg := mg
  base := base
  A := A.deeper (envOfC qual scope s.heap.objs.size f cd)
  N := N
  s_0 := s
  H_0 := H
  env := envOfC qual scope s.heap.objs.size f cd
  outer := outer
  stack := envOfC qual scope s.heap.objs.size f cd :: outer
  ex := []
  calm := true
  fn := fun _ => true
  pn := []
  xe := fun e s' => wpAny (model P w) (A.deeper (envOfC qual scope s.heap.objs.size f cd)) (leaving (envOfC qual scope s.heap.objs.size f cd) e) (fun _ s'' => CX outer H s E e s'') (fun e' s'' => CX outer H s E e' s'') s'

theorem cell_has {sc : Scope} {n : Nat} {x : Str} (h : sc.names.lookup x = some .cell) : ∃ c, (cellsFrom n sc.names []).lookup x = some c := by
  have q := PySem.W.cellsFrom_some sc.names n [] (.inl h)
  exact Option.isSome_iff_exists.mp q

theorem inv_start {CX : CXT} {P : Program} {w : World} {K : PySem.W.Frag} {mg : Str → Option Value} {base : Heap} {N ps : List Str} {qual : Str} {scope : Scope} {f : Addr} {cd : Value} {A : Around} {outer : List Env} {s s1 : Shared} {H : Hp} {E : XK} {us : List Value} {vs : List V}
    (S : FnScope N ps scope) (hd : A.handled = none) (e0 : Env0 P w K mg base A outer s H) (hl : vs.length = ps.length) (r : Vals vs us)
    (x : InCallC s s.heap.objs.size (bindL (envOfC qual scope s.heap.objs.size f cd).kindOf (ps.zip us) fun _ => none) (cellsFrom (s.heap.objs.size + 1) scope.names []) (bindC (envOfC qual scope s.heap.objs.size f cd).kindOf (ps.zip us) fun _ => none) s1) :
    Inv (cxOf CX P w K mg base N qual scope f cd A outer s H E) [] (start N vs) H s1 := by
  have hpl : ps.length ≤ N.length := by have := congrArg List.length S.pre; rw [List.length_take] at this; omega
  obtain ⟨h1, tk, rfl, hk⟩ := x.done
  have noA : ∀ b : Addr, b ∉ (cxOf CX P w K mg base N qual scope f cd A outer s H E).ex := fun b z => absurd (show b ∈ ([] : List Addr) from z) (by simp)
  refine ⟨⟨e0.mod, S.kind, rfl, rfl, Nat.le_refl _, fun y z c h1 h2 => ?_, fun y hy => ?_, fun y c _ h => ?_, fun _ => hd, Around.frames_deeper e0.frames, .inr ⟨rfl, rfl⟩, fun b z => absurd z (noA b), e0.bs, e0.bsz, fun b _ _ => noA b, fun b z => absurd z (noA b), e0.funs, e0.frf⟩,
    rfl, e0.bare, Un.kept hk, ⟨_, x.toInCall.ns, fun i y v h1 h2 h3 => ?_⟩, fun y c h => ⟨_, x.cell y c h⟩, e0.hok.fresh (Nat.le_refl _), fun y c h => ?_, fun p hp => absurd (show p ∈ ([] : List (Addr × Obj)) from hp) (by simp), e0.hok.kept hk, ?_⟩
  · exact name_of_addr x.apart (PySem.mem_of_lookup h1) (PySem.mem_of_lookup h2)
  · have hy : scope.names.lookup y = some .cell ∨ scope.names.lookup y = some .free := hy
    rcases hy with hy | hy
    · exact cell_has hy
    · exact absurd rfl (S.nofree _ (PySem.mem_of_lookup hy))
  · exact Nat.le_of_lt (x.above y c (PySem.mem_of_lookup h))
  · have hi : i < vs.length := by
      unfold start at h2
      by_cases hi : i < vs.length
      · exact hi
      · rw [List.getElem?_append_right (by simpa using hi)] at h2
        rw [List.getElem?_replicate] at h2
        split at h2 <;> cases h2
    have ha : vs[i]? = some v := by
      unfold start at h2
      rw [List.getElem?_append_left (by simpa using hi), List.getElem?_map] at h2
      cases e : vs[i]? with
      | none => rw [e] at h2; cases h2
      | some a => rw [e] at h2; cases h2; rfl
    obtain ⟨u, hu, rv⟩ := r.get ha
    have hp : ps[i]? = some y := by
      rw [← S.pre, List.getElem?_take_of_lt (by omega)]; exact h1
    have ndP : ps.Nodup := by rw [← S.pre]; exact S.nd.sublist (List.take_sublist _ _)
    refine ⟨u, rv, ?_⟩
    rcases S.par y (List.mem_of_getElem? hp) with k | k
    · exact .inl ⟨k, bindL_get ndP hp hu k⟩
    · obtain ⟨c, e⟩ := cell_has (n := s.heap.objs.size + 1) k
      refine .inr ⟨.inl k, c, e, ?_⟩
      have q := x.cell y c e
      rw [bindC_get ndP hp hu (by show scope.names.lookup y ≠ _; rw [k]; decide)] at q
      exact q
  · exact e0.hok.fresh (Nat.le_of_lt (x.above y c (PySem.mem_of_lookup h)))
  · unfold start
    show _ = N.length
    rw [List.length_append, List.length_map, List.length_replicate]
    omega

/-- THE RULE: a def (or a method) of the text, by its body. The body's reading t is chosen for each entry; it is run at the parameters' values -/
theorem fn_of {CX : CXT} {P : Program} {w : World} {K : PySem.W.Frag} {mg : Str → Option Value} {base : Heap} {k : Nat} {f : Addr} {name qual : Str} {params : Arguments} {body : List Stmt} {scope : Scope} {dV kV doc pm cdv ct oc : Value} {an od : Option Addr}
    {osl : Array (Option Value)} {N ps : List Str} {sp : Sp} (lk : K.lookup f = some ⟨oc, od, .func (PySem.W.fnOf name qual params body scope dV kV doc pm an cdv ct), osl⟩) (hcd : PySem.W.codeIn K cdv qual = true) (S : FnScope N ps scope)
    (len : ∀ vs H Q E, sp vs H Q E → vs.length = ps.length)
    (hbody : ∀ (A : Around) (outer : List Env) (s : Shared) (H : Hp) (vs : List V) (Q : VK) (E : XK), Room k (A.deeper (envOfC qual scope s.heap.objs.size f cdv)) → sp vs H Q E →
      ∃ t, PSs (cxOf CX P w K mg base N qual scope f cdv A outer s H E) body t ∧ t { nx := fun _ H' => Q .non H', rt := Q } (start N vs) H) :
    FnOk P w K mg base CX (k + 1) f (PySem.W.fnOf name qual params body scope dV kV doc pm an cdv ct) ps sp := by
  refine ⟨len, fun A outer s H args us vs Q E hr e0 hb r hsp => ?_⟩
  have hl := len _ _ _ _ hsp
  have KX : K.In s.heap := e0.mod.kin.keeps fun b o e => (e0.bs b o e).1
  have lim : s.heap.NoLimit := e0.mod.nolimit.keeps fun b o e => (e0.bs b o e).1
  have hkind : ∀ y ∈ ps.zip us, scope.names.lookup y.1 = some .local ∨ (scope.names.lookup y.1 = some .cell ∧ ((cellsFrom (s.heap.objs.size + 1) scope.names []).lookup y.1).isSome = true) := fun ⟨n, v⟩ hy => by
    rcases S.par n (List.of_mem_zip hy).1 with q | q
    · exact .inl q
    · exact .inr ⟨q, PySem.W.cellsFrom_some _ _ _ (.inl q)⟩
  refine codeAny_call_function hr.depth (KX _ _ lk) rfl S.co S.gen rfl (PySem.W.codeRec_of KX hcd) (hb _ _ _ _ ?_)
  refine wpAny_newFunctionEnv_cells S.kind hkind fun env he s1 x => ?_
  subst he
  refine ⟨lim.keeps x.toInCall.keep, codeAny_func ?_⟩
  obtain ⟨t, ht, hq⟩ := hbody A outer s H vs Q E (hr.deeper _) hsp
  have I : Inv (cxOf CX P w K mg base N qual scope f cdv A outer s H E) [] (start N vs) H s1 := inv_start S hr.hd e0 hl r x
  refine wpAny_mono (ht [] s1 (start N vs) H _ I hq) (fun fl s' hs => ?_) fun e s' hs => hs
  have fin : ∀ {σ' : St} {H' : Hp} {v : V} {u : Value}, Inv (cxOf CX P w K mg base N qual scope f cdv A outer s H E) [] σ' H' s' → RelV v u → Q v H' → CE outer P w H s Q u s' :=
    fun {σ' H' v u} J rv q => ⟨v, H', J.os, J.bare, J.base, J.hok, rv, q⟩
  cases fl with
  | ret u =>
    obtain ⟨v, σ', H', J, rv, q⟩ := hs
    exact fin J rv q
  | next =>
    obtain ⟨σ', H', J, q⟩ := hs
    exact fin (v := V.non) (u := Value.none) J rfl q
  | brk =>
    obtain ⟨_, _, _, q⟩ := hs
    exact False.elim q
  | cont =>
    obtain ⟨_, _, _, q⟩ := hs
    exact False.elim q
end L2

namespace L2
open PySem PySem.Spec PyProof.Rows
section
variable {X : Cx} {x : Str} {p pos : Pos} {e : Expr} {es : List Expr} {t : TA} {id T : String} {r : List V → Hp → VK → Prop}

def tCB (r : List V → Hp → VK → Prop) (t : TA) : TE := fun σ H Q => t σ H fun vs H1 => r vs H1 Q
/-- f(e, ..), f a built-in function -/
theorem pe_callB (hc : CallR X (.builtin id) r) (hg : Gl X x) (hm : X.mg x = none) (hv : bootBuiltins x = some (.builtin id)) (ha : PA X (e :: es) t) (hn : x ≠ "__name__" := by decide) (hdb : (x == ("__debug__" : Str)) = false := by decide)
    (he : starEach (e :: es) X.env = (false, eval e X.env) :: starEach es X.env := by rfl) (hpl : (backTo pos (starEach es X.env)).any (·.1) = false := by rfl) : PE X (.Call (.Name x p) (e :: es) [] pos) (tCB r t) := by
  intro pins s σ H Q I h
  refine wpAny_Call_Name_kw (ld_blt I hg hm hv ?_ hn hdb)
  exact PyProof.Rows.callWith_builtin1 (thn (ha pos pins s σ H _ I h) fun us s1 ⟨vs, H1, I1, r1, q1⟩ => hc pins s1 σ H1 vs us Q I1 r1 q1) he hpl
/-- T(e, ..), T a built-in type -/
theorem pe_callTy (hc : CallR X (.type T) r) (hg : Gl X x) (hm : X.mg x = none) (hv : bootBuiltins x = some (.type T)) (ha : PA X (e :: es) t) (hn : x ≠ "__name__" := by decide) (hdb : (x == ("__debug__" : Str)) = false := by decide)
    (he : starEach (e :: es) X.env = (false, eval e X.env) :: starEach es X.env := by rfl) (hpl : (backTo pos (starEach es X.env)).any (·.1) = false := by rfl) : PE X (.Call (.Name x p) (e :: es) [] pos) (tCB r t) := by
  intro pins s σ H Q I h
  refine wpAny_Call_Name_kw (ld_blt I hg hm hv ?_ hn hdb)
  exact PyProof.Rows.callWith_type1 (thn (ha pos pins s σ H _ I h) fun us s1 ⟨vs, H1, I1, r1, q1⟩ => hc pins s1 σ H1 vs us Q I1 r1 q1) he hpl
end
end L2

namespace HT
open PySem PyProof.Rows

section
open PySem.SeqAt
open PySem.AutoSeq1 (wpAny_loadPart')
open PySem.MeetsSeq PySem.MeetsSeq2 PySem.MeetsSeq3

end

section
variable {prog : Program} {w : World} {A : Around} {E : Value → Shared → Prop} {s : Shared}

/-! ### t[a:b], not the whole -/
end
end HT

namespace L2
open PySem PySem.Spec PyProof.Rows

/-! ### the parts of a slice -/
section
variable {X : Cx} {e : Expr} {te : TE} {lo hi : Option Expr} {tl th : TO} {pos p2 : Pos}

/-! ### t < u, t + u -/
end
end L2

namespace L2
open PySem PySem.Spec PyProof.Rows

/-! ### places -/
/-- the place that an index of any sign means -/
def ixN (n : Nat) (i : Int) : Option Nat := if 0 ≤ i then (if i < n then some i.toNat else none) else if -(n : Int) ≤ i then some (i + n).toNat else none
def atI {α : Type} (xs : List α) (i : Int) : Option α := (ixN xs.length i).bind fun j => xs[j]?
theorem ixN_seq {n : Nat} {i : Int} {j : Nat} (h : ixN n i = some j) : seqIndex? i n = some j ∧ j < n ∧ -(n : Int) ≤ i ∧ i < n := by
  unfold ixN at h
  by_cases h0 : 0 ≤ i
  · rw [if_pos h0] at h
    by_cases h1 : i < n
    · rw [if_pos h1] at h
      have e : i.toNat = j := Option.some.inj h
      exact ⟨by rw [seqIndex_of h0 h1, e], by omega, by omega, h1⟩
    · rw [if_neg h1] at h; cases h
  · rw [if_neg h0] at h
    by_cases h1 : -(n : Int) ≤ i
    · rw [if_pos h1] at h
      have e : (i + n).toNat = j := Option.some.inj h
      exact ⟨by rw [seqIndex_neg (by omega) h1, e], by omega, h1, by omega⟩
    · rw [if_neg h1] at h; cases h
theorem atI_get {α : Type} {xs : List α} {i : Int} {v : α} (h : atI xs i = some v) : ∃ j, seqIndex? i xs.length = some j ∧ xs[j]? = some v ∧ j < xs.length ∧ -(xs.length : Int) ≤ i ∧ i < xs.length := by
  unfold atI at h
  cases e : ixN xs.length i with
  | none => rw [e] at h; cases h
  | some j =>
    rw [e] at h
    obtain ⟨h1, h2, h3, h4⟩ := ixN_seq e
    exact ⟨j, h1, h, h2, h3, h4⟩
theorem atI_nat {α : Type} {xs : List α} {j : Nat} {v : α} (h : xs[j]? = some v) : atI xs (j : Int) = some v := by
  have hj : j < xs.length := (List.getElem?_eq_some_iff.mp h).1
  have e : ixN xs.length (j : Int) = some j := by
    unfold ixN
    rw [if_pos (by omega), if_pos (by omega)]; simp
  unfold atI; rw [e]; exact h
/-! ### what may be subscripted -/
/-- what stands as an index of a plain subscript -/
def PlainIx (b : Expr) : Prop := ∀ o i, subscripted b false o i = operate [o, i] (getItem o i)
/-- a subscript by values -/
def IxR (X : Cx) (r : R2) : Prop :=
  ∀ (value slice : Expr) (pins : List (Addr × Obj)) (s : Shared) (σ : St) (H : Hp) (x y : V) (v u : Value) (Q : VK), Inv X pins σ H s → RelV x v → RelV y u → r x y H Q →
    subscripted slice false v u = operate [v, u] (getItem v u) → wpAny (model X.prog X.w) X.A (subscriptTail value slice v u) (EP X pins σ Q) X.xe s
/-- a call of a builtin's method by values: the receiver, the arguments -/
def MtR (X : Cx) (id : String) (r : V → List V → Hp → VK → Prop) : Prop :=
  ∀ (pins : List (Addr × Obj)) (s : Shared) (σ : St) (H : Hp) (x : V) (xs : List V) (v : Value) (us : List Value) (Q : VK), Inv X pins σ H s → RelV x v → Vals xs us → r x xs H Q →
    wpAny (model X.prog X.w) X.A (call (.builtin id) (v :: us)) (EP X pins σ Q) X.xe s
section
variable {X : Cx} {a b : Expr} {ta tb : TE} {pos : Pos}
/-- a[b] -/
theorem pe_ix {r : R2} (hr : IxR X r) (ha : PE X a ta) (hb : PE X b tb) (hs : PlainIx b) : PE X (.Subscript a b pos) (tOp r ta tb) := by
  intro pins s σ H Q I h
  exact Subscript_ (binT ha hb I h fun v u s2 x y H2 I2 rx ry q => hr a b pins s2 σ H2 x y v u Q I2 rx ry q (hs _ _))

def rIxL (K : PySem.W.Frag) : R2 := fun x y H Q => ∃ p xs i v, x = .ref p ∧ y = .int i ∧ SqL K H p xs ∧ atI xs i = some v ∧ Q v H
def rIxT (K : PySem.W.Frag) : R2 := fun x y H Q => ∃ p xs i v, x = .ref p ∧ y = .int i ∧ SqT K H p xs ∧ atI xs i = some v ∧ Q v H
theorem ix_list : IxR X (rIxL X.K) := by
  intro value slice pins s σ H x y v u Q I rx ry h hs
  obtain ⟨p, xs, i, z, rfl, rfl, hq, he, q⟩ := h
  cases rx
  obtain ⟨t, rfl⟩ := ry
  obtain ⟨its, r, pl, hz⟩ := I.list hq
  obtain ⟨j, h1, h2, h3, h4, h5⟩ := atI_get he
  obtain ⟨w, ew, rw'⟩ := r.get h2
  have hl := r.length
  have hn := line63
  have fin : EP X pins σ Q w s := ⟨z, H, I, rw', q⟩
  by_cases h0 : 0 ≤ i
  · have hj : i.toNat = j := by
      rw [seqIndex_of h0 h5] at h1
      exact Option.some.inj h1
    exact item_listR pl.isList h0 (by omega) (by rw [hj]; simpa using ew) fin hs
  · have hj : (i + (its.toArray.size : Int)).toNat = j := by
      rw [seqIndex_neg (by omega) h4] at h1
      rw [List.size_toArray, ← hl]
      exact Option.some.inj h1
    exact subscriptTail_builtinR (x := w) pl.isList.typeIs slot_list_getitem.lookup
      (wpAny_getItem_list_neg (Q := fun r s' => r = w ∧ EP X pins σ Q r s') pl.isList (by omega) (by rw [List.size_toArray] <;> omega) (by omega) (by rw [hj]; simpa using ew) ⟨rfl, fin⟩) hs
theorem ix_tup : IxR X (rIxT X.K) := by
  intro value slice pins s σ H x y v u Q I rx ry h hs
  obtain ⟨p, xs, i, z, rfl, rfl, hq, he, q⟩ := h
  cases rx
  obtain ⟨t, rfl⟩ := ry
  obtain ⟨its, r, pl, hz⟩ := I.tuple hq
  obtain ⟨j, h1, h2, h3, h4, h5⟩ := atI_get he
  obtain ⟨w, ew, rw'⟩ := r.get h2
  have hl := r.length
  have hn := line63
  have fin : EP X pins σ Q w s := ⟨z, H, I, rw', q⟩
  exact subscriptTail_builtinR (x := w) pl.typeIs slot_tuple_getitem.lookup
    (getItem_tuple (j := j) (Q := fun r s' => r = w ∧ EP X pins σ Q r s') pl (by omega) (by omega) (by rw [List.size_toArray, ← hl]; exact h1) (by simpa using ew) ⟨rfl, fin⟩) hs
/-! ### xs[i] = v, any sign -/
/-! ### slices -/
/-! ### in, not in: flat items -/
def flatV : V → Bool
  | .non => true
  | .bl _ => true
  | .int _ => true
  | .str _ => true
  | _ => false
/-- == of flat values -/
def eqV : V → V → Bool
  | .non, .non => true
  | .bl a, .bl b => a == b
  | .bl a, .int b => (if a then 1 else 0) == b
  | .int a, .bl b => a == (if b then 1 else 0)
  | .int a, .int b => a == b
  | .str a, .str b => a == b
  | _, _ => false
theorem eqAt_V {A : Around} {s : Shared} {y x : V} {u v : Value} (ry : RelV y u) (rx : RelV x v) (fy : flatV y = true) (fx : flatV x = true) : SeqAt.EqAt A s u v (eqV y x) := by
  cases y with
  | non =>
    cases ry
    cases x with
    | non => cases rx; exact SeqAt.EqAt.same _
    | bl b => cases rx; exact SeqAt.EqAt.none_bool b
    | int b => obtain ⟨t, rfl⟩ := rx; exact SeqAt.EqAt.none_int b t
    | str b => obtain ⟨t, rfl⟩ := rx; exact SeqAt.EqAt.none_str b t
    | _ => exact absurd (show false = true from fx) Bool.false_ne_true
  | bl a =>
    cases ry
    cases x with
    | non => cases rx; exact SeqAt.EqAt.bool_none a
    | bl b => cases rx; exact SeqAt.EqAt.bool_bool a b
    | int b => obtain ⟨t, rfl⟩ := rx; exact SeqAt.EqAt.bool_int a b t
    | str b => obtain ⟨t, rfl⟩ := rx; exact SeqAt.EqAt.bool_str a b t
    | _ => exact absurd (show false = true from fx) Bool.false_ne_true
  | int a =>
    obtain ⟨t', rfl⟩ := ry
    cases x with
    | non => cases rx; exact SeqAt.EqAt.int_none a t'
    | bl b => cases rx; exact SeqAt.EqAt.int_bool a t' b
    | int b => obtain ⟨t, rfl⟩ := rx; exact SeqAt.EqAt.int_int a t' b t
    | str b => obtain ⟨t, rfl⟩ := rx; exact SeqAt.EqAt.int_str a t' b t
    | _ => exact absurd (show false = true from fx) Bool.false_ne_true
  | str a =>
    obtain ⟨t', rfl⟩ := ry
    cases x with
    | non => cases rx; exact SeqAt.EqAt.str_none a t'
    | bl b => cases rx; exact SeqAt.EqAt.str_bool a t' b
    | int b => obtain ⟨t, rfl⟩ := rx; exact SeqAt.EqAt.str_int a t' b t
    | str b => obtain ⟨t, rfl⟩ := rx; exact SeqAt.EqAt.str_str a t' b t
    | _ => exact absurd (show false = true from fx) Bool.false_ne_true
  | _ => exact absurd (show false = true from fy) Bool.false_ne_true
/-- the items' answers, read off the values (a value's own answer does not lean on its token) -/
def eqU (x : V) (u : Value) : Bool := match u with
  | .none => eqV .non x
  | .bool b => eqV (.bl b) x
  | .int i _ => eqV (.int i) x
  | .str z _ => eqV (.str z) x
  | _ => false
theorem eqU_of {x y : V} {u : Value} (r : RelV y u) (f : flatV y = true) : eqU x u = eqV y x := by
  cases y with
  | non => cases r; rfl
  | bl b => cases r; rfl
  | int i => obtain ⟨t, rfl⟩ := r; rfl
  | str z => obtain ⟨t, rfl⟩ := r; rfl
  | _ => exact absurd (show false = true from f) Bool.false_ne_true
theorem any_eqU {x : V} : ∀ {xs : List V} {us : List Value}, Vals xs us → xs.all flatV = true → us.any (eqU x) = xs.any fun y => eqV y x
  | _, _, .nil, _ => rfl
  | y :: xs, u :: us, .cons r t, f => by
    rw [List.all_cons, Bool.and_eq_true] at f
    rw [List.any_cons, List.any_cons, eqU_of r f.1, any_eqU t f.2]
theorem mem_eqAt {A : Around} {s : Shared} {x : V} {v : Value} (rx : RelV x v) (fx : flatV x = true) : ∀ {xs : List V} {us : List Value}, Vals xs us → xs.all flatV = true → ∀ u ∈ us, SeqAt.EqAt A s u v (eqU x u)
  | _, _, .nil, _ => fun u hu => by cases hu
  | y :: xs, u :: us, .cons r t, f => fun u' hu => by
    rw [List.all_cons, Bool.and_eq_true] at f
    rcases List.mem_cons.mp hu with rfl | hu
    · rw [eqU_of r f.1]; exact eqAt_V r rx f.1 fx
    · exact mem_eqAt rx fx t f.2 u' hu
def inV (x : V) (xs : List V) : Bool := xs.any fun y => eqV y x
/-- x in a list or tuple of flat items -/
def rIn (K : PySem.W.Frag) (neg : Bool) : R2 := fun x y H Q => ∃ p xs, y = .ref p ∧ (SqL K H p xs ∨ SqT K H p xs) ∧ flatV x = true ∧ xs.all flatV = true ∧ Q (.bl (if neg then !inV x xs else inV x xs)) H
theorem op_in_seq : OpR X (compareOp .In) (rIn X.K false) := by
  intro pins s σ H x y v u Q I rx ry h
  obtain ⟨p, xs, rfl, hq, fx, fs, q⟩ := h
  cases ry
  rcases hq with hq | hq
  · obtain ⟨its, r, pl, hz⟩ := I.list hq
    refine SeqAt.in_listAt (eqU x) pl.isList (fun w hw => mem_eqAt rx fx r fs w (by simpa using hw)) ⟨.bl _, H, I, rfl, ?_⟩
    rw [show its.toArray.any (eqU x) = its.any (eqU x) by simp, any_eqU r fs]
    exact q
  · obtain ⟨its, r, pl, hz⟩ := I.tuple hq
    refine SeqAt.in_tupleAt (eqU x) pl (fun w hw => mem_eqAt rx fx r fs w (by simpa using hw)) ⟨.bl _, H, I, rfl, ?_⟩
    rw [show its.toArray.any (eqU x) = its.any (eqU x) by simp, any_eqU r fs]
    exact q
theorem op_notIn_seq : OpR X (compareOp .NotIn) (rIn X.K true) := by
  intro pins s σ H x y v u Q I rx ry h
  obtain ⟨p, xs, rfl, hq, fx, fs, q⟩ := h
  cases ry
  rcases hq with hq | hq
  · obtain ⟨its, r, pl, hz⟩ := I.list hq
    refine SeqAt.notIn_listAt (eqU x) pl.isList (fun w hw => mem_eqAt rx fx r fs w (by simpa using hw)) ⟨.bl _, H, I, rfl, ?_⟩
    rw [show its.toArray.any (eqU x) = its.any (eqU x) by simp, any_eqU r fs]
    exact q
  · obtain ⟨its, r, pl, hz⟩ := I.tuple hq
    refine SeqAt.notIn_tupleAt (eqU x) pl (fun w hw => mem_eqAt rx fx r fs w (by simpa using hw)) ⟨.bl _, H, I, rfl, ?_⟩
    rw [show its.toArray.any (eqU x) = its.any (eqU x) by simp, any_eqU r fs]
    exact q
/-! ### len, list(x), tuple(x) of any list or tuple that is read -/
theorem call_len_seq : CallR X (.builtin "len") (fun xs H Q => ∃ p ys, xs = [.ref p] ∧ (SqL X.K H p ys ∨ SqT X.K H p ys) ∧ Q (.int ys.length) H) := by
  intro pins s σ H xs us Q I r h
  obtain ⟨p, ys, rfl, hq, q⟩ := h
  obtain ⟨u, rfl, rx⟩ := vals1 r
  cases rx
  have hn := line63
  rcases hq with hq | hq
  · obtain ⟨its, r', pl, hz⟩ := I.list hq
    have hlen := r'.length
    exact Calls.call_len_list pl.isList (by simp only [List.size_toArray] <;> omega) ⟨.int ys.length, H, I.tok _, ⟨s.toks + 1, by rw [List.size_toArray, hlen]⟩, q⟩
  · obtain ⟨its, r', pl, hz⟩ := I.tuple hq
    have hlen := r'.length
    exact len_tuple pl (by simp only [List.size_toArray] <;> omega) ⟨.int ys.length, H, I.tok _, ⟨s.toks + 1, by rw [List.size_toArray, hlen]⟩, q⟩
theorem call_tuple_of : CallR X (.type "tuple") (fun xs H Q => ∃ p ys, xs = [.ref p] ∧ ((SqL X.K H p ys ∧ ∀ l, H l = none → Q (.ref l) (upd H l (.tup ys))) ∨ (SqT X.K H p ys ∧ Q (.ref p) H))) := by
  intro pins s σ H xs us Q I r h
  obtain ⟨p, ys, rfl, h⟩ := h
  obtain ⟨u, rfl, rx⟩ := vals1 r
  cases rx
  rcases h with ⟨hq, q⟩ | ⟨hq, q⟩
  · obtain ⟨its, r', pl, hz⟩ := I.list hq
    have hlen := r'.length
    refine call_tuple_list pl.isList (fun h' kp => ?_) (by simp only [List.size_toArray] <;> omega)
    have I1 : Inv X pins σ H { s with heap := h' } := I.kept (t' := s.toks) kp
    have I2 : Inv X pins σ (upd H h'.objs.size (.tup ys)) { s with heap := h'.push { cls := .type "tuple", data := .seq its.toArray } } :=
      I1.laid (t' := s.toks) (fun b o e => Heap.get?_push_of_some _ e) (Nat.le_refl _) (show ObjOk X.prog X.w _ _ _ (.tup ys) from ⟨hz, its, r', IsTup.new _ _⟩)
    exact ⟨.ref h'.objs.size, _, I2, rfl, q _ (I1.hok.fresh (Nat.le_refl _))⟩
  · obtain ⟨its, r', pl, hz⟩ := I.tuple hq
    exact call_tuple_same pl ⟨.ref p, H, I, rfl, q⟩

/-! ### the call of a builtin's method: o.m(..) -/
/-- the value is of that builtin type -/
def tyV (K : PySem.W.Frag) (T : String) (x : V) (H : Hp) : Prop := match x with
  | .str _ => T = "str"
  | .int _ => T = "int"
  | .ref p => (T = "list" ∧ ∃ xs, SqL K H p xs) ∨ (T = "tuple" ∧ ∃ o, K.lookup p = some o ∧ o.cls = .type "tuple" ∧ o.dict = none) ∨
      (T = "dict" ∧ ((∃ kvs, H p = some (.dK kvs)) ∨ ∃ kvs, H p = some (.dT kvs))) ∨ (T = "set" ∧ ∃ S n, H p = some (.set S n))
  | _ => False
theorem tyV_is {pins : List (Addr × Obj)} {σ : St} {H : Hp} {s : Shared} {T : String} {x : V} {v : Value} (I : Inv X pins σ H s) (r : RelV x v) (ty : tyV X.K T x H) :
    s.TypeIs v T ∧ ∀ a, v = .ref a → ∃ ob, s.heap.get? a = some ob ∧ ob.dict = none := by
  cases x with
  | str z =>
    obtain ⟨t, rfl⟩ := r
    cases (show T = "str" from ty)
    exact ⟨typeIs_str s z t, fun _ e => nomatch e⟩
  | int i =>
    obtain ⟨t, rfl⟩ := r
    cases (show T = "int" from ty)
    exact ⟨typeIs_int s i t, fun _ e => nomatch e⟩
  | ref p =>
    cases r
    rcases ty with ⟨rfl, xs, hq⟩ | ⟨rfl, o, hk, hc, hd⟩ | ⟨rfl, hk⟩ | ⟨rfl, S, n, hk⟩
    · obtain ⟨its, _, pl, _⟩ := I.list hq
      refine ⟨pl.isList.typeIs, fun a e => ?_⟩
      cases e
      obtain ⟨o, n, e, c, hd, _⟩ := pl
      exact ⟨o, e, hd⟩
    · refine ⟨⟨o, I.kIn p o hk, hc⟩, fun a e => ?_⟩
      cases e
      exact ⟨o, I.kIn _ o hk, hd⟩
    · have z : ∃ o, s.heap.get? p = some o ∧ o.ExactDict := by
        rcases hk with ⟨kvs, hk⟩ | ⟨kvs, hk⟩
        · obtain ⟨_, _, _, _, o, _, _, e, ex, _⟩ := I.hok p _ hk
          exact ⟨o, e, ex⟩
        · obtain ⟨_, _, _, _, o, _, _, e, ex, _⟩ := I.hok p _ hk
          exact ⟨o, e, ex⟩
      obtain ⟨o, e, ex⟩ := z
      refine ⟨⟨o, e, ex.1⟩, fun a e2 => ?_⟩
      cases e2
      exact ⟨o, e, ex.2.1⟩
    · obtain ⟨o, _, _, _, e, ex, _⟩ := I.hok p _ hk
      refine ⟨⟨o, e, ex.1⟩, fun a e2 => ?_⟩
      cases e2
      exact ⟨o, e, ex.2.1⟩
  | _ => exact False.elim ty
def tBM (K : PySem.W.Frag) (T : String) (r : V → List V → Hp → VK → Prop) (to : TE) (t : TA) : TE := fun σ H Q => to σ H fun x H1 => tyV K T x H1 ∧ t σ H1 fun xs H2 => r x xs H2 Q
variable {o e : Expr} {es : List Expr} {to : TE} {t : TA} {name : Str} {apos cpos : Pos} {T id : String} {r : V → List V → Hp → VK → Prop}
theorem pe_bm (pa : PlainAttrs T) (slot : Slot T name id) (hty : typeOf (.builtin id) = pure (.type "method_descriptor")) (hm : MtR X id r) (ho : PE X o to) (ha : PA X (e :: es) t)
    (hbase : attributeBase o name X.env (eval o X.env) = eval o X.env := by rfl)
    (hfew : ((backTo cpos (starEach (e :: es) X.env)).all (fun x => !x.1) && (backToKw cpos (keywordEach [] X.env)).all (fun x => x.1.isSome)
      && decide ((e :: es).length + ([] : List Keyword).length + (if ([] : List Keyword).isEmpty then 0 else 1) < 30)) = true := by rfl)
    (hline : (apos.endLine == cpos.line) = true := by rfl) (hs : starEach (e :: es) X.env = (false, eval e X.env) :: starEach es X.env := by rfl) (hplain : (backTo cpos (starEach es X.env)).any (·.1) = false := by rfl) :
    PE X (.Call (.Attribute o name apos) (e :: es) [] cpos) (tBM X.K T r to t) := by
  intro pins s σ H Q I h
  refine wpAny_Call_method_late hbase hfew hline rfl (thn (ho pins s σ H _ I h) fun v s1 ⟨x, H1, I1, r1, ty, q1⟩ => ?_)
  obtain ⟨h1, h2⟩ := tyV_is I1 r1 ty
  refine ⟨T, id, pa, slot, hty, h1, h2, ?_⟩
  have hA := ha cpos pins s1 σ H1 _ I1 q1
  rw [hs] at hA ⊢
  refine Calls.callWith_builtin (by show (false || (backTo cpos (starEach es X.env)).any (·.1)) = false; rw [hplain] <;> rfl) (Calls.evalArgs_plain ?_)
  exact thn hA fun us s2 ⟨vs, H2, I2, r2, q2⟩ => hm pins s2 σ H2 x vs v us Q I2 r1 r2 q2
/- xs.append(e), list.index on a module's tuple .. are MtR facts of 06m -/
end
end L2

namespace L2
open PySem PySem.Spec PyProof.Rows

def MtM (X : Cx) (id : String) (r : V → List V → Hp → VK → Prop) : Prop :=
  ∀ (pins : List (Addr × Obj)) (s : Shared) (σ : St) (H : Hp) (x : V) (xs : List V) (v : Value) (us : List Value) (Q : VK), Inv X pins σ H s → RelV x v → Vals xs us → r x xs H Q →
    wpAny (model X.prog X.w) X.A (call (.builtin id) (v :: us)) (EP X pins σ Q) X.xe s

/-! ### lists of values -/
theorem Vals.one : ∀ {x : V} {us : List Value}, Vals [x] us → ∃ u, us = [u] ∧ RelV x u
  | _, _, .cons r .nil => ⟨_, rfl, r⟩
section
variable {X : Cx} {pins : List (Addr × Obj)} {σ : St} {H : Hp} {s : Shared} {l b : Addr} {xs ys zs : List V}

/-! ### the two steps: a tracked list is rewritten, a new list is laid -/
theorem Inv.lset {its its' : List Value} {n : Nat} {f : Array Value → Array Value} {t' : Nat} (I : Inv X pins σ H s) (hH : H l = some (.lst xs))
    (e : s.heap.get? l = some { cls := .type "list", data := .seq its.toArray n }) (hf : f its.toArray = its'.toArray) (hv : Vals ys its') (hz : ys.length ≤ sizeLine) :
    Inv X pins σ (upd H l (.lst ys)) { s with heap := s.heap.update l (Obj.mapSeq f), toks := t' } := by
  have q := PySem.IsL.update e f
  rw [hf] at q
  refine I.write (x := l) (e := l) (by rw [hH]; exact trivial) (.inl rfl) (fun b' u hb hu => (Heap.get?_update_other s.heap (Obj.mapSeq f) (Ne.symm hb)).trans hu) ⟨_, q⟩ ?_
  exact ⟨hz, its', _, hv, q⟩
theorem Inv.lnew {its : List Value} {t' : Nat} (I : Inv X pins σ H s) (hv : Vals ys its) (hz : ys.length ≤ sizeLine) :
    Inv X pins σ (upd H s.heap.objs.size (.lst ys)) { s with heap := s.heap.push { cls := .type "list", data := .seq its.toArray }, toks := t' } :=
  I.laid (fun _ _ q => Heap.get?_push_of_some _ q) (Nat.le_refl _) ⟨hz, its, 0, hv, Heap.get?_push_size _ rfl⟩
theorem Inv.fresh (I : Inv X pins σ H s) : H s.heap.objs.size = none := I.hok.fresh (Nat.le_refl _)
theorem Inv.lstM (I : Inv X pins σ H s) (hH : H l = some (.lst xs)) : xs.length ≤ sizeLine ∧ ∃ (its : List Value) (n : Nat), Vals xs its ∧ xs.length = its.length ∧ s.heap.get? l = some { cls := .type "list", data := .seq its.toArray n } := by
  obtain ⟨z, its, n, r, e⟩ := I.hok l _ hH
  exact ⟨z, its, n, r, r.length, e⟩

theorem notLongL {n : Nat} (h : n ≤ sizeLine) : Builtin.List.listTooLong n = false := by
  unfold Builtin.List.listTooLong
  exact decide_eq_false (by omega)
end

section
variable {X : Cx}

/-! ### methods -/
def rAppend : V → List V → Hp → VK → Prop := fun x vs H Q => ∃ l xs y, x = .ref l ∧ vs = [y] ∧ H l = some (.lst xs) ∧ xs.length < sizeLine ∧ Q .non (upd H l (.lst (xs ++ [y])))
theorem mt_append : MtM X "list.append" rAppend := by
  intro pins s σ H x vs v us Q I rx rv h
  obtain ⟨l, xs, y, rfl, rfl, hH, hz, q⟩ := h
  cases rx
  obtain ⟨u, rfl, ru⟩ := rv.one
  obtain ⟨z, its, n, r, hl, e⟩ := I.lstM hH
  refine call_meets F.slot_list_append ⟨_, e, rfl⟩ F.entry_list_append (F.args_list_append_2 _ _) (PySem.list_append l its.toArray n u (by rw [List.size_toArray]; omega)) ⟨e, ?_⟩
  refine ⟨.non, _, I.lset (its' := its ++ [u]) hH e (by simp) (r.append (.cons ru .nil)) ?_, rfl, q⟩
  rw [List.length_append, List.length_singleton]
  omega

def rExtend : V → List V → Hp → VK → Prop := fun x vs H Q => ∃ l b xs zs, x = .ref l ∧ vs = [.ref b] ∧ H l = some (.lst xs) ∧ H b = some (.lst zs) ∧ xs.length + zs.length ≤ sizeLine ∧ Q .non (upd H l (.lst (xs ++ zs)))
theorem mt_extend : MtM X "list.extend" rExtend := by
  intro pins s σ H x vs v us Q I rx rv h
  obtain ⟨l, b, xs, zs, rfl, rfl, hH, hB, hz, q⟩ := h
  cases rx
  obtain ⟨u, rfl, ru⟩ := rv.one
  cases ru
  obtain ⟨z, its, n, r, hl, e⟩ := I.lstM hH
  obtain ⟨z2, its2, n2, r2, hl2, e2⟩ := I.lstM hB
  have hsz : its.toArray.size + its2.toArray.size ≤ sizeLine := by rw [List.size_toArray, List.size_toArray]; omega
  have hlong : ¬ (!its.toArray.isEmpty && Builtin.List.listTooLong (its.toArray.size + its2.toArray.size)) = true := by
    rw [notLongL hsz, Bool.and_false]
    exact Bool.false_ne_true
  refine call_meets F.slot_list_extend ⟨_, e, rfl⟩ F.entry_list_extend (F.args_list_extend_2 _ _)
    (AutoSeq1.list_extend_list_list_0 l its.toArray n b its2.toArray n2 hlong (by rw [List.size_toArray]; omega) (by omega)) ⟨e, e2, ?_⟩
  refine ⟨.non, _, I.lset (its' := its ++ its2) hH e (by simp) (r.append r2) ?_, rfl, q⟩
  rw [List.length_append]
  omega

/-! ### list + list, list += list, list * int -/
def rCat : R2 := fun x y H Q => ∃ l b xs zs, x = .ref l ∧ y = .ref b ∧ H l = some (.lst xs) ∧ H b = some (.lst zs) ∧ xs.length + zs.length ≤ sizeLine ∧ ∀ p, H p = none → Q (.ref p) (upd H p (.lst (xs ++ zs)))
theorem op_cat : OpR X (binaryOp .Add) rCat := by
  intro pins s σ H x y v u Q I rx ry h
  obtain ⟨l, b, xs, zs, rfl, rfl, hH, hB, hz, q⟩ := h
  cases rx
  cases ry
  obtain ⟨z, its, n, r, hl, e⟩ := I.lstM hH
  obtain ⟨z2, its2, n2, r2, hl2, e2⟩ := I.lstM hB
  refine PySem.P.add_list e e2 ?_ (by rw [List.size_toArray, List.size_toArray]; omega)
  have ea : its.toArray ++ its2.toArray = (its ++ its2).toArray := by simp
  rw [ea]
  exact ⟨.ref _, _, I.lnew (t' := s.toks) (r.append r2) (by rw [List.length_append]; omega), rfl, q _ I.fresh⟩
/-! ### del xs[i] -/
end

/-! ### xs[a:b] = ys -/
section
variable {prog : Program} {w : World} {A : Around} {E : Value → Shared → Prop} {s : Shared}
end

section
variable {X : Cx}
end
end L2

namespace L2
open PySem PySem.Spec PyProof.Rows

theorem Vals.bls : ∀ {bs : List Bool} {us : List Value}, Vals (bs.map V.bl) us → us = bs.map Value.bool
  | [], us, h => by
    rw [List.map_nil] at h
    cases h
    rfl
  | b :: bs, us, h => by
    rw [List.map_cons] at h
    cases h with
    | cons r t =>
      cases r
      rw [Vals.bls t, List.map_cons]
theorem Vals.ref1 {a : Addr} {us : List Value} (r : Vals [V.ref a] us) : us = [Value.ref a] := by
  cases r with
  | cons r t =>
    cases t
    cases r
    rfl
/-! ### the library's walks over a list of ints, kept objects alone -/
section
variable {prog : Program} {w : World} {A : Around} {E : Value → Shared → Prop} {s : Shared} {l : Addr} {its : List Value} {ns : List Int} {Q : Value → Shared → Prop}
end

/-! ### the calls, by values (CallR of 03t; MtR of 06l) -/
section
variable {X : Cx}
/-! sorted, sort (fewer than 64 items: the library's own bound) -/
end

/-! ### list.index, flat items -/
section
variable {X : Cx}
end

/-! ### type(x) of an own instance; is, is not of a module's class -/
section
variable {X : Cx}
end

/-! ### any(xs), all(xs) of a list of bools -/
theorem iter_any {prog : Program} {w : World} {A : Around} {E : Value → Shared → Prop} {s : Shared} {l : Addr} {items : Array Value} {Q : Value → Shared → Prop} (hl : s.heap.IsList l items)
    (h : ∀ s₂ : Shared, s₂ = { s with heap := s.heap.push { cls := .type "list_iterator", data := .fields #[.ref l, .int 0 0] } } →
      (s₂.heap.IsListIter s.heap.objs.size l 0 ∧ s₂.heap.IsList l items) → l ≠ s.heap.objs.size → Q (.ref s.heap.objs.size) s₂) : wpAny (model prog w) A (pyIter (.ref l)) Q E s := by
  have hlt : l < s.heap.objs.size := by obtain ⟨_, e, _⟩ := hl; exact Heap.lt_size e
  exact wpAny_pyIter_list hl (h _ rfl ⟨⟨_, Heap.get?_push_size _ rfl, rfl, rfl⟩, hl.push _⟩ (Nat.ne_of_lt hlt))
theorem truth_bools {prog : Program} {w : World} {A : Around} {bs : List Bool} {its : List Value} (e : its = bs.map Value.bool) :
    TruthOf prog w A (fun i v => its.toArray[i]? = some v) (fun i => bs.getD i false) := fun i v s Q E hv hq => by
  have hv' : its[i]? = some v := by simpa using hv
  rw [e, List.getElem?_map] at hv'
  obtain ⟨b, hb, rfl⟩ := Option.map_eq_some_iff.mp hv'
  have hg : bs.getD i false = b := by rw [List.getD_eq_getElem?_getD, hb] <;> rfl
  have hq' : Q (bs.getD i false) s := hq
  rw [hg] at hq'
  exact wpAny_truthy_bool hq'
theorem any_range : ∀ bs : List Bool, (List.range bs.length).any (fun i => bs.getD i false) = bs.any id
  | [] => rfl
  | b :: bs => by
    rw [List.length_cons, List.range_succ_eq_map, List.any_cons, List.any_map, List.any_cons, ← any_range bs]
    all_goals rfl
section
variable {X : Cx}
def rAny (K : PySem.W.Frag) : List V → Hp → VK → Prop := fun vs H Q => ∃ (a : Addr) (bs : List Bool), vs = [V.ref a] ∧ SqL K H a (bs.map V.bl) ∧ Q (.bl (bs.any id)) H
theorem cr_any (hc : X.calm = true) : CallR X (.builtin "any") (rAny X.K) := by
  intro pins s σ H vs us Q I r h
  obtain ⟨a, bs, rfl, hs, q⟩ := h
  obtain ⟨its, rv, hl, _⟩ := I.list hs
  rw [Vals.ref1 r]
  have hb := rv.bls
  refine call_any_walk (iter_any hl.isList fun s₂ e2 st hne => ?_)
  subst e2
  refine ⟨_, _, _, _, _, _, _, rfl, Walks.list (A := X.A.in1) (I.ok.hd hc) _ a hne its.toArray, st, truth_bools hb, fun h' tk hk => ?_⟩
  refine ⟨.bl _, H, I.kept fun b o eo => hk b o (fun hmem => ?_) (Heap.get?_push_of_some _ eo), ?_, q⟩
  · rcases List.mem_cons.mp hmem with e1 | hmem
    · exact absurd (e1 ▸ Heap.lt_size eo) (Nat.lt_irrefl _)
    · cases hmem
  · show Value.bool _ = Value.bool _
    rw [← any_range, hb, List.size_toArray, List.length_map]
end

/-! ### == and != of data at any depth: none, bools, ints, texts, lists, tuples -/
section
variable {X : Cx} {pins : List (Addr × Obj)} {σ : St} {H : Hp} {s : Shared}
end
section
variable {X : Cx}
end
end L2

namespace L2
open PySem PySem.Spec PyProof.Rows
abbrev CellAt (h : Heap) (c : Addr) (v : Option Value) : Prop := h.IsCell c v
def relS (scope sc : Scope) : Scope :=
  { scope with names := scope.names.map fun (n, k) => if (k == .free && sc.kind == .function && sc.names.lookup n == some .cell) then (n, .cell) else (n, k) }

def cloFrom (cells : List (Str × Addr)) : List (Str × NameKind) → List (Str × Addr) → List (Str × Addr)
  | [], acc => acc
  | (n, k) :: r, acc => if k == .free then cloFrom cells r ((n, (cells.lookup n).getD 0) :: acc) else cloFrom cells r acc

theorem closure_loop (env : Env) (f : Str × NameKind → List (Str × Addr) → Sem (ForInStep (List (Str × Addr))))
    (hf : ∀ n k c, f (n, k) c = if k == .free then (do let a ← cellOf env n; pure (.yield ((n, a) :: c))) else pure (.yield c)) :
    ∀ (names : List (Str × NameKind)) (acc : List (Str × Addr)), (∀ y ∈ names, y.2 = .free → ∃ c, env.cells.lookup y.1 = some c) → forIn names acc f = pure (cloFrom env.cells names acc)
  | [], acc, _ => by rw [List.forIn_nil]; rfl
  | (n, k) :: r, acc, h => by
    rw [List.forIn_cons, hf]
    have ih := fun acc => closure_loop env f hf r acc fun y hy => h y (List.mem_cons_of_mem _ hy)
    unfold cloFrom
    by_cases hk : (k == NameKind.free) = true
    · rw [if_pos hk, if_pos hk]
      obtain ⟨c, hc⟩ := h (n, k) List.mem_cons_self (by simpa using hk)
      have e : cellOf env n = pure c := by unfold cellOf; rw [hc]
      rw [e]
      have e2 : (env.cells.lookup n).getD 0 = c := by rw [hc]; rfl
      rw [e2]
      exact ih _
    · rw [if_neg hk, if_neg hk]
      exact ih _
theorem closure_ok {scope : Scope} {env : Env} (h : ∀ y ∈ scope.names, y.2 = .free → ∃ c, env.cells.lookup y.1 = some c) : closureFor scope env = pure (cloFrom env.cells scope.names []) := by
  simp only [closureFor]
  rw [closure_loop env _ (fun n k c => rfl) scope.names [] h]
  rfl

theorem mem_lookup {α : Type} : ∀ {l : List (Str × α)} {n : Str} {c : α}, (n, c) ∈ l → ∃ c', l.lookup n = some c'
  | (k, v) :: r, n, c, h => by
    rw [List.lookup_cons]
    cases hb : n == k with
    | true => exact ⟨_, rfl⟩
    | false =>
      rcases List.mem_cons.mp h with e | h
      · cases e; simp at hb
      · exact mem_lookup h

theorem cloFrom_mem {cells : List (Str × Addr)} : ∀ {names : List (Str × NameKind)} {acc : List (Str × Addr)} {n : Str} {c : Addr}, (n, c) ∈ cloFrom cells names acc → (n, c) ∈ acc ∨ ((n, .free) ∈ names ∧ c = (cells.lookup n).getD 0)
  | [], _, _, _, h => .inl h
  | (m, k) :: r, acc, n, c, h => by
    unfold cloFrom at h
    split at h
    · rename_i hk
      have hk : k = .free := by simpa using hk
      rcases cloFrom_mem h with h | ⟨h1, h2⟩
      · rcases List.mem_cons.mp h with e | h
        · cases e; exact .inr ⟨hk ▸ List.mem_cons_self, rfl⟩
        · exact .inl h
      · exact .inr ⟨List.mem_cons_of_mem _ h1, h2⟩
    · rcases cloFrom_mem h with h | ⟨h1, h2⟩
      · exact .inl h
      · exact .inr ⟨List.mem_cons_of_mem _ h1, h2⟩
theorem cloFrom_acc {cells : List (Str × Addr)} : ∀ {names : List (Str × NameKind)} {acc : List (Str × Addr)} {p : Str × Addr}, p ∈ acc → p ∈ cloFrom cells names acc
  | [], _, _, h => h
  | (m, k) :: r, acc, p, h => by
    unfold cloFrom
    split
    · exact cloFrom_acc (List.mem_cons_of_mem _ h)
    · exact cloFrom_acc h
theorem cloFrom_has {cells : List (Str × Addr)} : ∀ {names : List (Str × NameKind)} {acc : List (Str × Addr)} {n : Str}, (n, .free) ∈ names → (n, (cells.lookup n).getD 0) ∈ cloFrom cells names acc
  | (m, k) :: r, acc, n, h => by
    unfold cloFrom
    rcases List.mem_cons.mp h with e | h
    · cases e
      exact cloFrom_acc List.mem_cons_self
    · split
      · exact cloFrom_has h
      · exact cloFrom_has h

theorem cells_mem : ∀ {names : List (Str × NameKind)} {h : Heap} {acc : List (Str × Addr)} {x : Str} {c : Addr}, (x, c) ∈ cellsFrom h.objs.size names acc →
    (x, c) ∈ acc ∨ ((x, .cell) ∈ names ∧ h.objs.size ≤ c ∧ CellAt (pushCells h names) c none)
  | [], _, _, _, _, h => .inl h
  | (n, k) :: r, h, acc, x, c, hm => by
    unfold cellsFrom at hm
    unfold pushCells
    split at hm
    · rename_i hk
      rw [if_pos hk]
      have hk : k = .cell := by simpa using hk
      rw [← Heap.size_push h { cls := .type "cell", data := .cell none }] at hm
      rcases cells_mem hm with hm | ⟨h1, h2, h3⟩
      · rcases List.mem_cons.mp hm with e | hm
        · cases e
          exact .inr ⟨hk ▸ List.mem_cons_self, Nat.le_refl _, _, pushCells_keeps r _ _ _ (Heap.get?_push_size _ rfl), rfl⟩
        · exact .inl hm
      · rw [Heap.size_push] at h2
        exact .inr ⟨List.mem_cons_of_mem _ h1, Nat.le_of_succ_le h2, h3⟩
    · rename_i hk
      rw [if_neg hk]
      rcases cells_mem hm with hm | ⟨h1, h2, h3⟩
      · exact .inl hm
      · exact .inr ⟨List.mem_cons_of_mem _ h1, h2, h3⟩
theorem cells_acc : ∀ {names : List (Str × NameKind)} {n : Nat} {acc : List (Str × Addr)} {p : Str × Addr}, p ∈ acc → p ∈ cellsFrom n names acc
  | [], _, _, _, h => h
  | (m, k) :: r, n, acc, p, h => by
    unfold cellsFrom
    split
    · exact cells_acc (List.mem_cons_of_mem _ h)
    · exact cells_acc h
theorem cells_has : ∀ {names : List (Str × NameKind)} {n : Nat} {acc : List (Str × Addr)} {x : Str}, (x, .cell) ∈ names → ∃ c, (x, c) ∈ cellsFrom n names acc
  | (m, k) :: r, n, acc, x, h => by
    unfold cellsFrom
    rcases List.mem_cons.mp h with e | h
    · cases e
      exact ⟨n, cells_acc List.mem_cons_self⟩
    · split
      · exact cells_has h
      · exact cells_has h
theorem cells_inj : ∀ {names : List (Str × NameKind)} {h : Heap} {acc : List (Str × Addr)} {x y : Str} {c : Addr}, (∀ p ∈ acc, p.2 < h.objs.size) → (∀ x y c, (x, c) ∈ acc → (y, c) ∈ acc → x = y) →
    (x, c) ∈ cellsFrom h.objs.size names acc → (y, c) ∈ cellsFrom h.objs.size names acc → x = y
  | [], _, _, _, _, _, _, hi, h1, h2 => hi _ _ _ h1 h2
  | (n, k) :: r, h, acc, x, y, c, hl, hi, h1, h2 => by
    unfold cellsFrom at h1 h2
    split at h1
    · rename_i hk
      rw [if_pos hk] at h2
      rw [← Heap.size_push h { cls := .type "cell", data := .cell none }] at h1 h2
      refine cells_inj (h := h.push _) (fun p hp => ?_) (fun x y c a b => ?_) h1 h2
      · rw [Heap.size_push]
        rcases List.mem_cons.mp hp with rfl | hp
        · exact Nat.lt_succ_self _
        · exact Nat.lt_succ_of_lt (hl p hp)
      · rcases List.mem_cons.mp a with e | a <;> rcases List.mem_cons.mp b with e' | b
        · cases e; cases e'; rfl
        · cases e; exact absurd (hl _ b) (Nat.lt_irrefl _)
        · cases e'; exact absurd (hl _ a) (Nat.lt_irrefl _)
        · exact hi _ _ _ a b
    · rename_i hk
      rw [if_neg hk] at h2
      exact cells_inj hl hi h1 h2

theorem newEnv_comp {M : Model} {A : Around} {E : Value → Shared → Prop} {s : Shared} {scope : Scope} {globals : Addr} {closure : List (Str × Addr)} {qual : Str} {func : Option Addr} {code : Value} {around : Env} {builtins : Addr} {Q : Env → Shared → Prop}
    (h : Q (newEnv scope s.heap.objs.size globals (cellsFrom (s.heap.objs.size + 1) scope.names closure) qual func code (some around) builtins)
      { s with heap := pushCells (s.heap.push { cls := .type "dict", data := .dict #[] }) scope.names }) :
    wpAny M A (newFunctionEnv scope globals closure [] qual func code (some around) builtins) Q E s := by
  simp only [newFunctionEnv, Option.isSome_some, if_true]
  refine wpAny_bind (wpAny_alloc ?_)
  refine wpAny_bind (wpAny_layCells _ (fun n k c => rfl) scope.names closure _ _ ?_)
  rw [show ({ s with heap := s.heap.push { cls := .type "dict", data := .dict #[] } } : Shared).heap.objs.size = s.heap.objs.size + 1 from Heap.size_push ..]
  rw [List.forIn_nil]
  exact wpAny_bind (wpAny_pure (wpAny_pure h))

/-- every name of the written scope, in the scope that runs -/
theorem lookup_relS {sc : Scope} : ∀ {names : List (Str × NameKind)} {x : Str} {k : NameKind},
    (names.map fun (n, k) => if (k == NameKind.free && sc.kind == .function && sc.names.lookup n == some .cell) then (n, NameKind.cell) else (n, k)).lookup x = some k →
    ∃ k', names.lookup x = some k' ∧ (k = k' ∨ (k' = .free ∧ k = .cell))
  | [], _, _, h => by simp at h
  | (n, k₀) :: r, x, k, h => by
    have ih := @lookup_relS sc r x k
    have h' : List.lookup x ((if (k₀ == NameKind.free && sc.kind == .function && sc.names.lookup n == some .cell) = true then (n, NameKind.cell) else (n, k₀)) :: (r.map _)) = some k := h
    cases hx : x == n with
    | true =>
      simp only [List.lookup_cons, hx]
      by_cases hc : (k₀ == NameKind.free && sc.kind == .function && sc.names.lookup n == some .cell) = true
      · rw [if_pos hc] at h'
        simp only [List.lookup_cons, hx] at h'
        cases h'
        simp only [Bool.and_eq_true, beq_iff_eq] at hc
        exact ⟨k₀, rfl, .inr ⟨hc.1.1, rfl⟩⟩
      · rw [if_neg hc] at h'
        simp only [List.lookup_cons, hx] at h'
        cases h'
        exact ⟨_, rfl, .inl rfl⟩
    | false =>
      simp only [List.lookup_cons, hx]
      by_cases hc : (k₀ == NameKind.free && sc.kind == .function && sc.names.lookup n == some .cell) = true
      · rw [if_pos hc] at h'
        simp only [List.lookup_cons, hx] at h'
        exact ih h'
      · rw [if_neg hc] at h'
        simp only [List.lookup_cons, hx] at h'
        exact ih h'
/-- the names of a comprehension's block: its own (with their places in N), or captured -/
structure BlkOk (N : List Str) (sc scope : Scope) (own : List (Str × Nat)) : Prop where
  kind : scope.kind = .function
  uniq : ∀ y ∈ scope.names, scope.names.lookup y.1 = some y.2
  ix : ∀ p ∈ own, N[p.2]? = some p.1
  free : ∀ y ∈ scope.names, y.2 = .free → sc.names.lookup y.1 = some .cell ∨ sc.names.lookup y.1 = some .free
  own : ∀ y ∈ scope.names, y.2 = .local ∨ y.2 = .cell → y.1 ∈ own.map (·.1) ∨ y.1 ∉ N
/-- the slots of the block's own names forgotten -/
def wipe (σ : St) : List Nat → St
  | [] => σ
  | v :: vs => (wipe σ vs).set v none
theorem wipe_length (σ : St) : ∀ vs : List Nat, (wipe σ vs).length = σ.length
  | [] => rfl
  | v :: vs => by unfold wipe; rw [List.length_set, wipe_length σ vs]
theorem wipe_some {σ : St} {i : Nat} {x : V} : ∀ {vs : List Nat}, (wipe σ vs)[i]? = some (some x) → σ[i]? = some (some x) ∧ i ∉ vs
  | [], h => ⟨h, by simp⟩
  | v :: vs, h => by
    unfold wipe at h
    by_cases hi : v = i
    · subst hi
      by_cases hv : v < (wipe σ vs).length
      · rw [List.getElem?_set_self hv] at h; cases h
      · rw [List.getElem?_eq_none (by simpa using hv)] at h; cases h
    · rw [List.getElem?_set_ne hi] at h
      obtain ⟨h1, h2⟩ := wipe_some h
      exact ⟨h1, by simp only [List.mem_cons, not_or]; exact ⟨fun e => hi e.symm, h2⟩⟩

/-- the context of a block that starts at s, its iterator's objects at fp -/
abbrev Cx.blk (X : Cx) (s : Shared) (H : Hp) (scope : Scope) (cenv : Env) (fp : List Addr) : Cx := { X with s_0 := s, H_0 := H, env := cenv, outer := X.stack, ex := fp, fn := fun x => scope.names.lookup x == some .cell, pn := [], xe := fun _ _ => False }
section
variable {X : Cx} {pins : List (Addr × Obj)} {σ : St} {H : Hp} {s : Shared}
theorem block_start {scope : Scope} {own : List (Str × Nat)} {fp : List Addr} (I : Inv X pins σ H s) (ok : BlkOk X.N X.env.scope scope own) (hN : X.N.Nodup) (hfp : ∀ b ∈ fp, FpOk X pins H b ∧ b < s.heap.objs.size) :
    Inv (X.blk s H scope (compEnvC scope (cellsFrom (s.heap.objs.size + 1) scope.names (cloFrom X.env.cells scope.names [])) s.heap.objs.size X.env) fp) [] (wipe σ (own.map (·.2))) H { s with heap := pushCells (s.heap.push { cls := .type "dict", data := .dict #[] }) scope.names } := by
  have hfree : ∀ y ∈ scope.names, y.2 = .free → ∃ c, X.env.cells.lookup y.1 = some c := fun y hy e => by
    rcases ok.free y hy e with k | k
    · exact I.ok.has _ (.inl k)
    · exact I.ok.has _ (.inr k)
  generalize hcenv : compEnvC scope (cellsFrom (s.heap.objs.size + 1) scope.names (cloFrom X.env.cells scope.names [])) s.heap.objs.size X.env = cenv
  have kp : ∀ b o, s.heap.get? b = some o → (pushCells (s.heap.push { cls := .type "dict", data := .dict #[] }) scope.names).get? b = some o := fun b o e => pushCells_keeps _ _ _ _ (Heap.get?_push_of_some _ e)
  have hL : cenv.locals = s.heap.objs.size := by rw [← hcenv]; rfl
  have hcl : cenv.cells = cellsFrom (s.heap.objs.size + 1) scope.names (cloFrom X.env.cells scope.names []) := by rw [← hcenv]; rfl
  have hsc : cenv.scope = relS scope X.env.scope := by rw [← hcenv]; rfl
  rw [← Heap.size_push s.heap { cls := .type "dict", data := .dict #[] }] at hcl
  have cm : ∀ {y c}, (y, c) ∈ cloFrom X.env.cells scope.names [] → X.env.cells.lookup y = some c ∧ c < s.heap.objs.size := fun {y c} hm => by
    rcases cloFrom_mem hm with hm | ⟨h1, rfl⟩
    · cases hm
    · obtain ⟨c, hc⟩ := hfree _ h1 rfl
      rw [hc]
      obtain ⟨w, z⟩ := I.cell _ _ hc
      exact ⟨rfl, z.lt⟩
  have mem : ∀ {y c}, cenv.cells.lookup y = some c → (X.env.cells.lookup y = some c ∧ c < s.heap.objs.size) ∨ (s.heap.objs.size + 1 ≤ c ∧ CellAt (pushCells (s.heap.push { cls := .type "dict", data := .dict #[] }) scope.names) c none) := fun {y c} e => by
    rw [hcl] at e
    rcases cells_mem (PySem.mem_of_lookup e) with hm | ⟨_, h2, h3⟩
    · exact .inl (cm hm)
    · rw [Heap.size_push] at h2; exact .inr ⟨h2, h3⟩
  have look : ∀ {y}, scope.names.lookup y = some .free → ∃ c, cenv.cells.lookup y = some c ∧ X.env.cells.lookup y = some c := fun {y} hl => by
    have hy : (y, NameKind.free) ∈ scope.names := PySem.mem_of_lookup hl
    obtain ⟨c', e'⟩ := mem_lookup (cells_acc (names := scope.names) (n := (s.heap.push { cls := .type "dict", data := .dict #[] }).objs.size) (cloFrom_has (cells := X.env.cells) (acc := []) hy))
    rw [← hcl] at e'
    refine ⟨c', e', ?_⟩
    rw [hcl] at e'
    rcases cells_mem (PySem.mem_of_lookup e') with hm | ⟨h1, _, _⟩
    · exact (cm hm).1
    · have := ok.uniq _ h1
      rw [hl] at this; cases this
  have okB : (X.blk s H scope cenv fp).Ok := by
    refine ⟨I.ok.mod, by show cenv.scope.kind = _; rw [hsc]; exact ok.kind, by show cenv.globals = _; rw [← hcenv]; exact I.ok.glob, by show cenv.builtins = _; rw [← hcenv]; exact I.ok.blt, by show s.heap.objs.size ≤ cenv.locals; rw [hL]; exact Nat.le_refl _,
      fun y z c e1 e2 => ?_, fun y hy => ?_, fun y c z e => ?_, I.ok.hd, I.ok.frames, .inl rfl, fun b hb => ⟨?_, fun y c e z => ?_⟩, I.bs, Nat.le_trans I.ok.bsz I.sz, fun b o e hb => ?_, fun b hb z => ?_, I.stack, I.stkFree⟩
    · have e1 : cenv.cells.lookup y = some c := e1
      have e2 : cenv.cells.lookup z = some c := e2
      rw [hcl] at e1 e2
      refine cells_inj (fun p hp => ?_) (fun y z c a b => I.ok.inj y z c (cm a).1 (cm b).1) (PySem.mem_of_lookup e1) (PySem.mem_of_lookup e2)
      rw [Heap.size_push]
      exact Nat.lt_succ_of_lt (cm (y := p.1) (c := p.2) hp).2
    · show ∃ c, cenv.cells.lookup y = some c
      have key : ∀ k, cenv.kindOf y = some k → (k = .cell ∨ k = .free) → ∃ c, cenv.cells.lookup y = some c := fun k hk hk' => by
        unfold Env.kindOf at hk
        rw [hsc] at hk
        obtain ⟨k', e, r⟩ := lookup_relS hk
        have : k' = .cell ∨ k' = .free := by
          rcases r with rfl | ⟨rfl, _⟩
          · exact hk'
          · exact .inr rfl
        rcases this with rfl | rfl
        · obtain ⟨c, hm⟩ := cells_has (n := (s.heap.push { cls := .type "dict", data := .dict #[] }).objs.size) (acc := cloFrom X.env.cells scope.names []) (PySem.mem_of_lookup e)
          obtain ⟨c', e'⟩ := mem_lookup hm
          exact ⟨c', by rw [hcl]; exact e'⟩
        · obtain ⟨c, h1, _⟩ := look e
          exact ⟨c, h1⟩
      rcases hy with hy | hy
      · exact key _ hy (.inl rfl)
      · exact key _ hy (.inr rfl)
    · have z : (scope.names.lookup y == some NameKind.cell) = true := z
      have z : scope.names.lookup y = some .cell := by simpa using z
      have e : cenv.cells.lookup y = some c := e
      rw [hcl] at e
      rcases cells_mem (PySem.mem_of_lookup e) with hm | ⟨_, h2, _⟩
      · rcases cloFrom_mem hm with hm | ⟨h1, _⟩
        · cases hm
        · have q := ok.uniq _ h1
          rw [z] at q; cases q
      · rw [Heap.size_push] at h2
        exact Nat.le_of_succ_le h2
    · show b ≠ cenv.locals
      rw [hL]; exact Nat.ne_of_lt (hfp b hb).2
    · have e : cenv.cells.lookup y = some c := e
      rcases mem e with ⟨h1, _⟩ | ⟨h1, _⟩
      · exact (hfp b hb).1.2.2.2.2.1 y c h1 z
      · have h2 : s.heap.objs.size + 1 ≤ b := by rw [← z]; exact h1
        exact absurd (Nat.lt_of_lt_of_le (hfp b hb).2 (Nat.le_of_succ_le h2)) (Nat.lt_irrefl _)
    · rcases (hfp b hb).1.2.2.2.1 with z | z
      · exact I.ok.noex b o e z
      · exact absurd (Nat.lt_of_lt_of_le (Heap.lt_size e) (Nat.le_trans I.ok.bsz z)) (Nat.lt_irrefl _)
    · rcases List.mem_cons.mp (I.stkSub b z) with z | z
      · exact (hfp b hb).1.2.1 z
      · exact (hfp b hb).1.2.2.1 z
  refine ⟨okB, rfl, I.bare, Un.kept kp, ⟨fun _ => none, ?_, fun i y av e1 e2 e3 => ?_⟩, fun y c e => ?_, ?_, fun y c e => ?_, fun p hp => ?_, I.hok.kept kp, by rw [wipe_length]; exact I.len⟩
  · show Heap.Ns _ cenv.locals _
    rw [hL]
    exact Heap.Ns.keeps (Heap.Ns.new ..) fun b o e => pushCells_keeps _ _ _ _ e
  · obtain ⟨e2, hne⟩ := wipe_some e2
    have hfr : scope.names.lookup y = some .free ∧ (cenv.kindOf y = some .cell ∨ cenv.kindOf y = some .free) := by
      have key : ∀ k, cenv.scope.names.lookup y = some k → k = .local ∨ k = .cell ∨ k = .free → scope.names.lookup y = some .free ∧ (cenv.kindOf y = some .cell ∨ cenv.kindOf y = some .free) := fun k hk hk' => by
        have hk0 := hk
        rw [hsc] at hk
        obtain ⟨k', e, r⟩ := lookup_relS hk
        have no : ¬ (k' = .local ∨ k' = .cell) := fun hh => by
          rcases ok.own _ (PySem.mem_of_lookup e) hh with e' | e'
          · obtain ⟨p, hp, hpy⟩ := List.mem_map.mp e'
            have e3 := ok.ix p hp
            have : p.1 = y := hpy
            rw [this] at e3
            exact hne (List.mem_map.mpr ⟨p, hp, nodup_ix hN e3 e1⟩)
          · exact e' (List.mem_of_getElem? e1)
        rcases r with rfl | ⟨rfl, rfl⟩
        · rcases hk' with rfl | rfl | rfl
          · exact absurd (.inl rfl) no
          · exact absurd (.inr rfl) no
          · exact ⟨e, .inr hk0⟩
        · exact ⟨e, .inl hk0⟩
      have e3 : Vis cenv.scope y := e3
      rcases e3 with e3 | e3 | e3
      · exact key _ e3 (.inl rfl)
      · exact key _ e3 (.inr (.inl rfl))
      · exact key _ e3 (.inr (.inr rfl))
    obtain ⟨m, hn, hl⟩ := I.loc
    have hvis : Vis X.env.scope y := (ok.free _ (PySem.mem_of_lookup hfr.1) rfl).elim (fun k => .inr (.inl k)) (fun k => .inr (.inr k))
    obtain ⟨w, r, q⟩ := hl i y av e1 e2 hvis
    refine ⟨w, r, .inr ⟨hfr.2, ?_⟩⟩
    obtain ⟨c, h1, h2⟩ := look hfr.1
    rcases q with ⟨k, _⟩ | ⟨_, c', e', z⟩
    · have k : X.env.scope.names.lookup y = some .local := k
      rcases ok.free _ (PySem.mem_of_lookup hfr.1) rfl with k' | k' <;> rw [show X.env.scope.names.lookup y = _ from k'] at k <;> cases k
    · rw [h2] at e'; cases e'
      exact ⟨c, h1, z.keeps kp⟩
  · have e : cenv.cells.lookup y = some c := e
    rcases mem e with ⟨h1, _⟩ | ⟨_, z⟩
    · obtain ⟨w, z⟩ := I.cell y c h1
      exact ⟨w, z.keeps kp⟩
    · exact ⟨_, z⟩
  · show H cenv.locals = none
    rw [hL]; exact I.hok.fresh (Nat.le_refl _)
  · have e : cenv.cells.lookup y = some c := e
    rcases mem e with ⟨h1, _⟩ | ⟨h1, _⟩
    · exact I.freeC y c h1
    · exact I.hok.fresh (Nat.le_of_succ_le h1)
  · exact absurd (show p ∈ ([] : List (Addr × Obj)) ++ [] from hp) (by simp)

/-- an item appended to a tracked list -/
theorem app_ok {E : Value → Shared → Prop} {D : Addr} {xs : List V} {y : V} {v : Value} {Q : Value → Shared → Prop} (I : Inv X pins σ H s) (hD : H D = some (.lst xs)) (hz : xs.length < sizeLine) (r : RelV y v)
    (h : ∀ s', Inv X pins σ (upd H D (.lst (xs ++ [y]))) s' → Q .none s') : wpAny (model X.prog X.w) X.A (call (.builtin "list.append") [.ref D, v]) Q E s := by
  obtain ⟨hz', its, n, ri, e⟩ := I.hok D _ hD
  have hl := ri.length
  refine append_at (hsz := by rw [List.size_toArray]; omega) e fun h' sb ho' => ?_
  refine h { s with heap := h' } (I.write (t' := s.toks) (by rw [hD]; trivial) (.inl rfl) (fun b u hb q => (sb.2 b hb).trans q) ⟨_, ho'⟩ ⟨by rw [List.length_append]; exact hz, its ++ [v], n + 1, ri.append (.cons r .nil), ?_⟩)
  rw [ho']
  simp

/-- a clause's tests -/
def PTs (X : Cx) (ifs : List Expr) (t : TT) : Prop :=
  ∀ (pins : List (Addr × Obj)) (s : Shared) (σ : St) (H : Hp) (Q : Bool → Hp → Prop), Inv X pins σ H s → t σ H Q →
    wpAny (model X.prog X.w) X.A (forIn ifs true fun c r => if r = true then do let ok ← isTrue c X.env (eval c X.env); pure (ForInStep.yield ok) else pure (ForInStep.yield r)) (TP X pins σ Q) X.xe s
def tYes : TT := fun _ H Q => Q true H
theorem pts_nil : PTs X [] tYes := fun _ _ _ H _ I h => wpAny_tests_nil ⟨H, I, h⟩
end

theorem thnF {α : Type} {t : Sem α} {Q Q' : α → Shared → Prop} {M : Model} {A : Around} {E : Value → Shared → Prop} {s : Shared} (h : wpAny M A t Q (fun _ _ => False) s) (hQ : ∀ a s, Q a s → Q' a s) : wpAny M A t Q' E s := wpAny_mono h hQ fun _ _ z => False.elim z

/-- the loop of a list comprehension's block, the target of any form (codeAny_compLoop_tests asks a target that no tuple goes to; statement and proof follow it, PyProof/CompMap.lean:41-61, with the step letOwnedTupleGo kept) -/
theorem compLoop_any {prog : Program} {w : World} {A : Around} {R : Result → Shared → Prop} {s : Shared} {elt target iter : Expr} {ifs : List Expr} {scope : Scope} {pos : Pos} {it acc : Value} {env : Env} (I : Nat → Shared → Prop)
    (turn : ∀ n s, I n s → wpAny (model prog w) A (pyNext it) (fun r s₁ => match r with
      | none => R (.ok .next) s₁
      | some v => wpAny (model prog w) A (letOwnedTupleGo target it v) (fun _ s₁' => wpAny (model prog w) A (assign target env v) (fun _ s₂ =>
          wpAny (model prog w) A (forIn ifs true fun c r => if r = true then do let ok ← isTrue c env (eval c env); pure (ForInStep.yield ok) else pure (ForInStep.yield r)) (fun ok s₃ =>
            if ok = true then wpAny (model prog w) A (eval elt env) (fun x s₄ =>
              wpAny (model prog w) A (call (.builtin "list.append") [acc, x]) (fun _ s₅ => ∃ m, m < n ∧ I m s₅) (notedBy (model prog w) A env fun e s' => R (.error e) s') s₄) (notedBy (model prog w) A env fun e s' => R (.error e) s') s₃
            else ∃ m, m < n ∧ I m s₃) (notedBy (model prog w) A env fun e s' => R (.error e) s') s₂) (notedBy (model prog w) A env fun e s' => R (.error e) s') s₁') (notedBy (model prog w) A env fun e s' => R (.error e) s') s₁) (notedBy (model prog w) A env fun e s' => R (.error e) s') s)
    (n : Nat) (h : I n s) :
    codeAny (model prog w) A (.compLoop (.ListComp elt [⟨target, iter, ifs, 0⟩] scope pos) 0 it acc env) R s := by
  refine codeAny_loop rfl I (fun n s hI => ?_) n h
  show wpAny _ A ((compTurn (.ListComp elt [⟨target, iter, ifs, 0⟩] scope pos) 0 it acc env).onRaise (fun x => do noteFrame x env; theTreesLotGoes x)) _ _ s
  refine wpAny_noted ?_
  rw [compTurn_list]
  refine wpAny_bind (wpAny_standAt (wpAny_bind (wpAny_mono (turn n s hI) (fun r s₁ h₁ => ?_) fun _ _ h' => h')))
  cases r with
  | none => exact wpAny_pure h₁
  | some v =>
    refine wpAny_bind (wpAny_mono h₁ (fun _ s₁' h₁' => ?_) fun _ _ h' => h')
    refine wpAny_bind (wpAny_mono h₁' (fun _ s₂ h₂ => wpAny_bind (wpAny_mono h₂ (fun ok s₃ h₃ => ?_) fun _ _ h' => h')) fun _ _ h' => h')
    cases ok with
    | false => exact wpAny_pure ⟨rfl, h₃⟩
    | true =>
      exact wpAny_bind (wpAny_bind (wpAny_mono h₃ (fun x s₄ h₄ => wpAny_bind (wpAny_mono h₄ (fun _ s₅ h₅ => wpAny_pure (wpAny_pure ⟨rfl, h₅⟩)) fun _ _ h' => h')) fun _ _ h' => h'))

section
variable {X : Cx}
/-- [elt for target in iter if ..]: D the new list; W by the turn and a measure, Nx what a turn is to reach -/
def tLc (wi : TI) (g : TG) (tt : TT) (te : TE) (vs : List Nat) : TE := fun σ H Q => wi σ H fun J H1 => ∀ D, H1 D = none → ∃ W : Nat → Nat → Hp → Prop, (∃ m, W 0 m (upd H1 D (.lst []))) ∧ ∀ i m H, W i m H →
  (J.stop i H ∧ Q (.ref D) H) ∨ (J.go i H ∧ ∃ Nx : Hp → Prop, (∀ H', Nx H' → ∃ m', m' < m ∧ W (i + 1) m' H') ∧ ∀ x H', J.yld i H x H' → g x (wipe σ vs) H' fun σ2 H2 => wipe σ2 vs = wipe σ vs ∧ tt σ2 H2 fun b H3 =>
    if b = true then te σ2 H3 fun y H4 => ∃ acc, H4 D = some (.lst acc) ∧ acc.length < sizeLine ∧ Nx (upd H4 D (.lst (acc ++ [y]))) else Nx H3)
theorem lc_core {pins : List (Addr × Obj)} {s : Shared} {σ : St} {H : Hp} {Q : VK} {elt tg iter : Expr} {ifs : List Expr} {scope : Scope} {own : List (Str × Nat)} {pos pos' : Pos} {wi : TI} {g : TG} {tt : TT} {te : TE} {use : Option (Value → Sem Unit)} {Qf : Value → Shared → Prop}
    (hc : X.calm = true) (hN : X.N.Nodup) (I : Inv X pins σ H s) (hi : PI X tg iter wi) (ok : BlkOk X.N X.env.scope scope own)
    (hg : ∀ (s : Shared) (H : Hp) (C : Addr) (cl : List (Str × Addr)) (fp : List Addr), PG (X.blk s H scope (compEnvC scope cl C X.env) fp) tg g) (ht : ∀ (s : Shared) (H : Hp) (C : Addr) (cl : List (Str × Addr)) (fp : List Addr), PTs (X.blk s H scope (compEnvC scope cl C X.env) fp) ifs tt)
    (he : ∀ (s : Shared) (H : Hp) (C : Addr) (cl : List (Str × Addr)) (fp : List Addr), PE (X.blk s H scope (compEnvC scope cl C X.env) fp) elt te) (hs : ∀ x, foldedSetIterable iter X.env x = pure x)
    (h : tLc wi g tt te (own.map (·.2)) σ H Q)
    (hRR : ∀ D C s' m H', Inv X pins σ H' s' → Q (.ref D) H' → s'.heap.Ns C m → FpOk X pins H' C → compPost (model X.prog X.w) X.A X.xe use Qf (.ref D) C (.ok .next) s') :
    wpAny (model X.prog X.w) X.A (comprehension (.ListComp elt [⟨tg, iter, ifs, 0⟩] scope pos) scope X.env pos' (newList []) false (eval iter X.env) use) Qf X.xe s := by
  have hfree : ∀ y ∈ scope.names, y.2 = .free → ∃ c, X.env.cells.lookup y.1 = some c := fun y hy e => by
    rcases ok.free y hy e with k | k
    · exact I.ok.has _ (.inl k)
    · exact I.ok.has _ (.inr k)
  refine wpAny_comprehension_free (use := use) rfl hs (closure_ok hfree) ok.kind (fun y hy e => by rw [ok.uniq y hy, e])
    (thn (hi pins s σ H _ I h) fun xv s1 hx => thn hx fun itv s2 h2 => ?_)
  obtain ⟨it, fp, tn, J, H2, e, I2, T, st2, f2, q⟩ := h2
  subst e
  refine wpAny_newObj_type (newEnv_comp ?_) (by show 0 ≤ sizeLine; decide)
  generalize hD : s2.heap.objs.size = D
  have hDn : H2 D = none := I2.hok.fresh (Nat.le_of_eq hD)
  obtain ⟨W, ⟨m0, w0⟩, turn⟩ := q D hDn
  -- the new list
  generalize hs3 : ({ s2 with heap := s2.heap.push { cls := .type "list", data := .seq ([] : List Value).toArray } } : Shared) = s3
  have I3 : Inv X pins σ (upd H2 D (.lst [])) s3 := by
    rw [← hs3]
    refine I2.laid (t' := s2.toks) (fun b o e => Heap.get?_push_of_some _ e) (Nat.le_of_eq hD) ⟨Nat.zero_le _, [], 0, .nil, ?_⟩
    rw [← hD]
    exact Heap.get?_push_size _ rfl
  have h3 : s3.heap = s2.heap.push { cls := .type "list", data := .seq ([] : List Value).toArray } := by rw [← hs3]
  have sz : ∀ b ∈ fp, b < s2.heap.objs.size := fun b hb => by
    obtain ⟨o, e, _⟩ := T.obj _ _ st2 b hb
    exact Heap.lt_size e
  have f3 : ∀ b ∈ fp, FpOk X pins (upd H2 D (.lst [])) b ∧ b < s3.heap.objs.size := fun b hb => by
    have hlt := sz b hb
    refine ⟨⟨?_, (f2 b hb).2⟩, by rw [h3, Heap.size_push]; exact Nat.lt_succ_of_lt hlt⟩
    rw [upd_ne (by rw [← hD]; exact Nat.ne_of_lt hlt)]
    exact (f2 b hb).1
  have st3 : tn 0 s3.heap := T.keep _ _ _ st2 fun b _ o e => by rw [h3]; exact Heap.get?_push_of_some _ e
  have I4 := block_start I3 ok hN f3
  have pg := hg s3 (upd H2 D (.lst [])) s3.heap.objs.size (cellsFrom (s3.heap.objs.size + 1) scope.names (cloFrom X.env.cells scope.names [])) fp
  have pt := ht s3 (upd H2 D (.lst [])) s3.heap.objs.size (cellsFrom (s3.heap.objs.size + 1) scope.names (cloFrom X.env.cells scope.names [])) fp
  have pe := he s3 (upd H2 D (.lst [])) s3.heap.objs.size (cellsFrom (s3.heap.objs.size + 1) scope.names (cloFrom X.env.cells scope.names [])) fp
  show codeAny _ _ (.compStart (.ListComp elt [⟨tg, iter, ifs, 0⟩] scope pos) 0 (.ref it) (.ref D) (compEnvC scope (cellsFrom (s3.heap.objs.size + 1) scope.names (cloFrom X.env.cells scope.names [])) s3.heap.objs.size X.env)) (compPost (model X.prog X.w) X.A X.xe use Qf (.ref D) s3.heap.objs.size) { s3 with heap := pushCells (s3.heap.push { cls := .type "dict", data := .dict #[] }) scope.names }
  have nfp : ∀ b ∈ fp, (upd H2 D (.lst [])) b = none := fun b hb => (f3 b hb).1.1
  generalize hce : compEnvC scope (cellsFrom (s3.heap.objs.size + 1) scope.names (cloFrom X.env.cells scope.names [])) s3.heap.objs.size X.env = ce at I4 pg pt pe ⊢
  have cL : ce.locals = s3.heap.objs.size := by subst hce; rfl
  generalize hH3 : upd H2 D (.lst []) = H3 at I3 I4 pg pt pe w0 nfp f3
  generalize hs4 : ({ s3 with heap := pushCells (s3.heap.push { cls := .type "dict", data := .dict #[] }) scope.names } : Shared) = s4 at I4 ⊢
  have st4 : tn 0 s4.heap := T.keep _ _ _ st3 fun b _ o e => by rw [← hs4]; exact pushCells_keeps _ _ _ _ (Heap.get?_push_of_some _ e)
  have stat : ∀ {σ' : St} {H' : Hp} {s' : Shared}, Inv (X.blk s3 H3 scope ce fp) [] σ' H' s' → (∀ b ∈ fp, H' b = none) → ∀ b ∈ fp, FpOk (X.blk s3 H3 scope ce fp) [] H' b := fun {σ' H' s'} I' hn b hb =>
    ⟨hn b hb, (I'.ok.exf b hb).1, I'.ok.exfs b hb, .inl hb, fun x c e => (I'.ok.exf b hb).2 x c e, fun p hp => absurd (show p ∈ ([] : List (Addr × Obj)) ++ [] from hp) (by simp)⟩
  have loop : codeAny (model X.prog X.w) X.A (.compLoop (.ListComp elt [⟨tg, iter, ifs, 0⟩] scope pos) 0 (.ref it) (.ref D) ce) (compPost (model X.prog X.w) X.A X.xe use Qf (.ref D) s3.heap.objs.size) s4 := by
    refine compLoop_any (fun n s' => ∃ i H', Inv (X.blk s3 H3 scope ce fp) [] (wipe σ (own.map (·.2))) H' s' ∧ tn i s'.heap ∧ (∀ b ∈ fp, H' b = none) ∧ W i n H') ?_ m0 ⟨0, H3, I4, st4, nfp, w0⟩
    rintro n s5 ⟨i, H5, I5, st5, n5, w5⟩
    rcases turn i n H5 w5 with ⟨stop, qq⟩ | ⟨go, Nx, hNx, step⟩
    · have td := T.done (X.blk s3 H3 scope ce fp) rfl rfl rfl hc i [] s5 _ H5 (fun _ _ => False) I5 (stat I5 n5) st5 stop
      refine thnF td fun r s6 ⟨hr, I6⟩ => ?_
      subst hr
      -- back in the def's context
      have I7 : Inv X pins σ H5 s6 := I3.call' (ch := fp) I6.os I6.base I6.hok I6.bare fun b hb => ⟨(f3 b hb).1.2.2.2.1, (f3 b hb).1.2.1, (f3 b hb).1.2.2.2.2.1, (f3 b hb).1.2.2.2.2.2⟩
      have nC : H5 s3.heap.objs.size = none := by
        have z : H5 ce.locals = none := I6.free
        rw [cL] at z
        exact z
      obtain ⟨m, hn, _⟩ := I6.loc
      have hn : s6.heap.Ns ce.locals m := hn
      rw [cL] at hn
      exact hRR D s3.heap.objs.size s6 m H5 I7 qq hn (I3.fpOk (Nat.le_refl _) nC)
    · have ti := T.item (X.blk s3 H3 scope ce fp) rfl rfl rfl hc i [] s5 _ H5 (fun _ _ => False) I5 (stat I5 n5) st5 go
      refine thnF ti fun r s6 ⟨u, hr, h6⟩ => ?_
      subst hr
      refine thnF h6 fun _ s7 ⟨x, H7, I7, r7, y7, st7, n7⟩ => ?_
      have I7' := I7.pinned (stat I7 n7) (T.obj _ _ st7)
      refine thnF (pg _ s7 _ H7 x u _ I7' r7 (step x H7 y7)) fun _ s8 ⟨σ8, H8, I8, hw8, q8⟩ => ?_
      refine thnF (pt _ s8 σ8 H8 _ I8 q8) fun b s9 ⟨H9, I9, q9⟩ => ?_
      -- the turn's end
      have fin : ∀ {s' : Shared} {H' : Hp}, Inv (X.blk s3 H3 scope ce fp) ([] ++ pinsAt fp s7.heap) σ8 H' s' → Nx H' → ∃ m, m < n ∧ ∃ i H', Inv (X.blk s3 H3 scope ce fp) [] (wipe σ (own.map (·.2))) H' s' ∧ tn i s'.heap ∧ (∀ b ∈ fp, H' b = none) ∧ W i m H' := fun {s' H'} I' nx => by
        obtain ⟨m', hm, w'⟩ := hNx H' nx
        have pin' : ∀ b ∈ fp, ∀ o, s7.heap.get? b = some o → s'.heap.get? b = some o ∧ H' b = none := fun b hb o e =>
          let z := I'.pin (b, o) (List.mem_append_right _ (List.mem_append_right _ (mem_pinsAt hb e)))
          ⟨z.1, z.2.1⟩
        have hl : (wipe σ (own.map (·.2))).length = σ8.length := by rw [← hw8, wipe_length]
        refine ⟨m', hm, i + 1, H', (I'.unpinned (pins := [])).weak hl (fun j v e => ?_), T.keep _ _ _ st7 fun b hb o e => (pin' b hb o e).1, fun b hb => ?_, w'⟩
        · rw [← hw8] at e
          exact (wipe_some e).1
        · obtain ⟨o, e, _⟩ := T.obj _ _ st7 b hb
          exact (pin' b hb o e).2
      cases b with
      | false =>
        simp only [Bool.false_eq_true, if_false] at q9 ⊢
        exact fin I9 q9
      | true =>
        simp only [if_true] at q9 ⊢
        refine thnF (pe _ s9 σ8 H9 _ I9 q9) fun z s10 ⟨yv, H10, I10, r10, acc, hD10, hz10, nx⟩ => ?_
        exact app_ok (X := X.blk s3 H3 scope ce fp) I10 hD10 hz10 r10 fun s11 I11 => fin I11 nx
  exact codeAny_compStart_list loop (T.self X.A 0 _ _ _ st4 loop)
/-- as a value -/
theorem pe_lc {elt tg iter : Expr} {ifs : List Expr} {scope : Scope} {own : List (Str × Nat)} {pos : Pos} {wi : TI} {g : TG} {tt : TT} {te : TE} (hc : X.calm = true) (hN : X.N.Nodup) (hi : PI X tg iter wi) (ok : BlkOk X.N X.env.scope scope own)
    (hg : ∀ (s : Shared) (H : Hp) (C : Addr) (cl : List (Str × Addr)) (fp : List Addr), PG (X.blk s H scope (compEnvC scope cl C X.env) fp) tg g) (ht : ∀ (s : Shared) (H : Hp) (C : Addr) (cl : List (Str × Addr)) (fp : List Addr), PTs (X.blk s H scope (compEnvC scope cl C X.env) fp) ifs tt)
    (he : ∀ (s : Shared) (H : Hp) (C : Addr) (cl : List (Str × Addr)) (fp : List Addr), PE (X.blk s H scope (compEnvC scope cl C X.env) fp) elt te) (hs : ∀ x, foldedSetIterable iter X.env x = pure x := by intro _; rfl) :
    PE X (.ListComp elt [⟨tg, iter, ifs, 0⟩] scope pos) (tLc wi g tt te (own.map (·.2))) := by
  intro pins s σ H Q I h
  rw [eval_ListComp]
  refine lc_core hc hN I hi ok hg ht he hs h fun D C s' m H' I' q hn f => ⟨m, hn, fun h'' sb => ?_⟩
  obtain ⟨f0, f1, f2, f3, f4, f5⟩ := f
  exact ⟨.ref D, H', I'.turned (t' := s'.toks) (fun b o hb e => (sb.2 b hb).trans e) f0 f1 f3 f4 f5, rfl, q⟩
/-- name = [..] on one line, the name a local -/
theorem ps_setLc {i : Nat} {y : Str} {py : Pos} {elt tg iter : Expr} {ifs : List Expr} {scope : Scope} {own : List (Str × Nat)} {pos spos : Pos} {wi : TI} {g : TG} {tt : TT} {te : TE} (hc : X.calm = true) (hN : X.N.Nodup) (hy : X.N[i]? = some y) (hyl : X.env.scope.names.lookup y = some .local)
    (hsw : swapsWith (.ListComp elt [⟨tg, iter, ifs, 0⟩] scope pos) (some (.Name y py)) spos.line X.env = pure true) (hi : PI X tg iter wi) (ok : BlkOk X.N X.env.scope scope own)
    (hg : ∀ (s : Shared) (H : Hp) (C : Addr) (cl : List (Str × Addr)) (fp : List Addr), PG (X.blk s H scope (compEnvC scope cl C X.env) fp) tg g) (ht : ∀ (s : Shared) (H : Hp) (C : Addr) (cl : List (Str × Addr)) (fp : List Addr), PTs (X.blk s H scope (compEnvC scope cl C X.env) fp) ifs tt)
    (he : ∀ (s : Shared) (H : Hp) (C : Addr) (cl : List (Str × Addr)) (fp : List Addr), PE (X.blk s H scope (compEnvC scope cl C X.env) fp) elt te) (hs : ∀ x, foldedSetIterable iter X.env x = pure x := by intro _; rfl) :
    PS X (.Assign [.Name y py] (.ListComp elt [⟨tg, iter, ifs, 0⟩] scope pos) spos) (tAsg (tLc wi g tt te (own.map (·.2))) (gName i)) := by
  intro pins s σ H D I h
  rw [exec_Assign_Name_used _ _ _ _ hsw]
  refine wpAny_bind (wpAny_standAt (wpAny_bind ?_))
  show wpAny _ X.A (do let _ ← comprehension (.ListComp elt [⟨tg, iter, ifs, 0⟩] scope pos) scope X.env (firstIterPos [⟨tg, iter, ifs, 0⟩] pos) (newList []) false (eval iter X.env) (some (assign (.Name y py) X.env))) _ _ s
  have h : tLc wi g tt te (own.map (·.2)) σ H (fun x H1 => gName i x σ H1 D.nx) := h
  refine wpAny_bind (thn (lc_core (Qf := fun _ s' => SP X pins D .next s') hc hN I hi ok hg ht he hs h fun L C s' m H' I' q hn f => ?_) fun _ s' hq => wpAny_pure (wpAny_pure hq))
  show wpAny _ _ (assign (.Name y py) X.env (.ref L)) _ _ _
  refine wpAny_assign_Name (store_ok2 (v := V.ref L) I' hN hy (.inl hyl) rfl (fun s2 I2 ⟨a, sb, ha⟩ => ?_) (.inr hyl))
  obtain ⟨f0, f1, f2, f3, f4, f5⟩ := f
  have haC : C ≠ a := by
    rcases ha with z | z
    · rw [z]; exact f1
    · exact fun e => f4 y a z e.symm
  refine ⟨m, hn.sameBut sb haC, fun h3 sb3 => ?_⟩
  exact ⟨_, H', I2.turned (t' := s2.toks) (fun b o hb e => (sb3.2 b hb).trans e) f0 f1 f3 f4 f5, q⟩
theorem sw_true {elt : Expr} {gs : List Comprehension} {scope : Scope} {pos py : Pos} {y : Str} {l : Nat} {env : Env} (hk : env.scope.kind = .function) (hy : env.scope.names.lookup y = some .local) (hl : (py.line == pos.line) = true)
    (ha : (scope.names.any fun (n, k) => n == y && (k == .local || k == .cell)) = false) : swapsWith (.ListComp elt gs scope pos) (some (.Name y py)) l env = pure true := by
  have ky : env.kindOf y = some .local := hy
  have hb : env.blockKind = .function := by unfold Env.blockKind; rw [hk]; rfl
  unfold swapsWith
  simp only [hb, ky, ha, Expr.pos, hl]
  rfl
end

/-! ### the forms one uses -/
/-- over a range: Pv by the turn and the heap (the new list at D within) -/
theorem lc_range {lo : Int} {n : Nat} {g : TG} {tt : TT} {te : TE} {vs : List Nat} {σ : St} {H1 : Hp} {D : Addr} {Qd : Hp → Prop} (Pv : Nat → Hp → Prop) (h0 : Pv 0 (upd H1 D (.lst [])))
    (hs : ∀ i H, i < n → Pv i H → g (.int (lo + i)) (wipe σ vs) H fun σ2 H2 => wipe σ2 vs = wipe σ vs ∧ tt σ2 H2 fun b H3 =>
      if b = true then te σ2 H3 fun y H4 => ∃ acc, H4 D = some (.lst acc) ∧ acc.length < sizeLine ∧ Pv (i + 1) (upd H4 D (.lst (acc ++ [y]))) else Pv (i + 1) H3) (hd : ∀ H, Pv n H → Qd H) :
    ∃ W : Nat → Nat → Hp → Prop, (∃ m, W 0 m (upd H1 D (.lst []))) ∧ ∀ i m H, W i m H →
      ((Itr lo n).stop i H ∧ Qd H) ∨ ((Itr lo n).go i H ∧ ∃ Nx : Hp → Prop, (∀ H', Nx H' → ∃ m', m' < m ∧ W (i + 1) m' H') ∧ ∀ x H', (Itr lo n).yld i H x H' → g x (wipe σ vs) H' fun σ2 H2 => wipe σ2 vs = wipe σ vs ∧ tt σ2 H2 fun b H3 =>
        if b = true then te σ2 H3 fun y H4 => ∃ acc, H4 D = some (.lst acc) ∧ acc.length < sizeLine ∧ Nx (upd H4 D (.lst (acc ++ [y]))) else Nx H3) := by
  refine ⟨fun i m H => m = n - i ∧ i ≤ n ∧ Pv i H, ⟨n, by simp, Nat.zero_le _, h0⟩, ?_⟩
  rintro i m H ⟨rfl, hi, p⟩
  by_cases hlt : i < n
  · refine .inr ⟨hlt, Pv (i + 1), fun H' p' => ⟨n - (i + 1), by omega, rfl, hlt, p'⟩, fun x H' y => ?_⟩
    obtain ⟨e, y⟩ := y
    subst e y
    exact hs i _ hlt p
  · have e : i = n := by omega
    subst e
    exact .inl ⟨Nat.le_refl _, hd H p⟩
/-- over a list that the block leaves as it is -/
theorem lc_list {K : PySem.W.Frag} {a : Addr} {xs : List V} {g : TG} {tt : TT} {te : TE} {vs : List Nat} {σ : St} {H1 : Hp} {D : Addr} {Qd : Hp → Prop} (Pv : Nat → Hp → Prop) (h0 : Pv 0 (upd H1 D (.lst []))) (hl : ∀ i H, i ≤ xs.length → Pv i H → SqL K H a xs)
    (hs : ∀ i x H, xs[i]? = some x → Pv i H → g x (wipe σ vs) H fun σ2 H2 => wipe σ2 vs = wipe σ vs ∧ tt σ2 H2 fun b H3 =>
      if b = true then te σ2 H3 fun y H4 => ∃ acc, H4 D = some (.lst acc) ∧ acc.length < sizeLine ∧ Pv (i + 1) (upd H4 D (.lst (acc ++ [y]))) else Pv (i + 1) H3) (hd : ∀ H, Pv xs.length H → Qd H) :
    ∃ W : Nat → Nat → Hp → Prop, (∃ m, W 0 m (upd H1 D (.lst []))) ∧ ∀ i m H, W i m H →
      ((Itl K a).stop i H ∧ Qd H) ∨ ((Itl K a).go i H ∧ ∃ Nx : Hp → Prop, (∀ H', Nx H' → ∃ m', m' < m ∧ W (i + 1) m' H') ∧ ∀ x H', (Itl K a).yld i H x H' → g x (wipe σ vs) H' fun σ2 H2 => wipe σ2 vs = wipe σ vs ∧ tt σ2 H2 fun b H3 =>
        if b = true then te σ2 H3 fun y H4 => ∃ acc, H4 D = some (.lst acc) ∧ acc.length < sizeLine ∧ Nx (upd H4 D (.lst (acc ++ [y]))) else Nx H3) := by
  refine ⟨fun i m H => m = xs.length - i ∧ i ≤ xs.length ∧ Pv i H, ⟨xs.length, by simp, Nat.zero_le _, h0⟩, ?_⟩
  rintro i m H ⟨rfl, hi, p⟩
  have q := hl i H hi p
  by_cases hlt : i < xs.length
  · refine .inr ⟨⟨xs, xs[i], q, by simp [hlt]⟩, Pv (i + 1), fun H' p' => ⟨xs.length - (i + 1), by omega, rfl, hlt, p'⟩, fun x H' y => ?_⟩
    obtain ⟨e, y⟩ := y
    subst e
    exact hs i x _ (y xs q) p
  · have e : i = xs.length := by omega
    subst e
    exact .inl ⟨⟨xs, q, Nat.le_refl _⟩, hd H p⟩
/-- over a tuple -/
theorem lc_tup {K : PySem.W.Frag} {a : Addr} {xs : List V} {g : TG} {tt : TT} {te : TE} {vs : List Nat} {σ : St} {H1 : Hp} {D : Addr} {Qd : Hp → Prop} (Pv : Nat → Hp → Prop) (h0 : Pv 0 (upd H1 D (.lst []))) (hl : ∀ i H, i ≤ xs.length → Pv i H → SqT K H a xs)
    (hs : ∀ i x H, xs[i]? = some x → Pv i H → g x (wipe σ vs) H fun σ2 H2 => wipe σ2 vs = wipe σ vs ∧ tt σ2 H2 fun b H3 =>
      if b = true then te σ2 H3 fun y H4 => ∃ acc, H4 D = some (.lst acc) ∧ acc.length < sizeLine ∧ Pv (i + 1) (upd H4 D (.lst (acc ++ [y]))) else Pv (i + 1) H3) (hd : ∀ H, Pv xs.length H → Qd H) :
    ∃ W : Nat → Nat → Hp → Prop, (∃ m, W 0 m (upd H1 D (.lst []))) ∧ ∀ i m H, W i m H →
      ((Itt K a).stop i H ∧ Qd H) ∨ ((Itt K a).go i H ∧ ∃ Nx : Hp → Prop, (∀ H', Nx H' → ∃ m', m' < m ∧ W (i + 1) m' H') ∧ ∀ x H', (Itt K a).yld i H x H' → g x (wipe σ vs) H' fun σ2 H2 => wipe σ2 vs = wipe σ vs ∧ tt σ2 H2 fun b H3 =>
        if b = true then te σ2 H3 fun y H4 => ∃ acc, H4 D = some (.lst acc) ∧ acc.length < sizeLine ∧ Nx (upd H4 D (.lst (acc ++ [y]))) else Nx H3) := by
  refine ⟨fun i m H => m = xs.length - i ∧ i ≤ xs.length ∧ Pv i H, ⟨xs.length, by simp, Nat.zero_le _, h0⟩, ?_⟩
  rintro i m H ⟨rfl, hi, p⟩
  have q := hl i H hi p
  by_cases hlt : i < xs.length
  · refine .inr ⟨⟨xs, xs[i], q, by simp [hlt]⟩, Pv (i + 1), fun H' p' => ⟨xs.length - (i + 1), by omega, rfl, hlt, p'⟩, fun x H' y => ?_⟩
    obtain ⟨e, y⟩ := y
    subst e
    exact hs i x _ (y xs q) p
  · have e : i = xs.length := by omega
    subst e
    exact .inl ⟨⟨xs, q, Nat.le_refl _⟩, hd H p⟩
def blkC (N : List Str) (sc scope : Scope) (own : List (Str × Nat)) : Bool :=
  (match scope.kind with | .function => true | _ => false) && (scope.names.all fun y => decide (scope.names.lookup y.1 = some y.2)) && (own.all fun p => decide (N[p.2]? = some p.1)) &&
    (scope.names.all fun y => match y.2 with
      | .free => (match sc.names.lookup y.1 with | some .cell => true | some .free => true | _ => false)
      | .local => decide (y.1 ∈ own.map (·.1)) || decide (y.1 ∉ N)
      | .cell => decide (y.1 ∈ own.map (·.1)) || decide (y.1 ∉ N)
      | _ => true)
theorem blkOk_by {N : List Str} {sc scope : Scope} {own : List (Str × Nat)} (h : blkC N sc scope own = true) : BlkOk N sc scope own := by
  unfold blkC at h
  simp only [Bool.and_eq_true, List.all_eq_true, decide_eq_true_eq] at h
  obtain ⟨⟨⟨h1, h2⟩, h3⟩, h4⟩ := h
  refine ⟨?_, h2, h3, fun y hy e => ?_, fun y hy e => ?_⟩
  · split at h1
    · assumption
    · cases h1
  · have q := h4 y hy
    simp only [e] at q
    split at q <;> first | exact .inl (by assumption) | exact .inr (by assumption) | cases q
  · have q := h4 y hy
    rcases e with e | e <;> (simp only [e, Bool.or_eq_true, decide_eq_true_eq] at q; exact q)
end L2

namespace L2
open PySem PySem.Spec PyProof.Rows

section
variable {prog : Program} {w : World} {A : Around} {R : Result → Shared → Prop} {s : Shared} {elt t0 i0 t1 i1 : Expr} {ifs0 ifs1 : List Expr} {scope : Scope} {pos : Pos} {it acc : Value} {env : Env}
end

section
variable {X : Cx}
end
end L2

namespace L2
open PySem PySem.Spec PyProof.Rows

/-! ### lists of pairs as tables -/
section
variable {κ : Type} [DecidableEq κ]
end


/-! ### a tracked dict, its keys ints and texts or tuples of these -/
section
variable {P : Program} {w : World} {H : Hp} {h : Heap} {a : Addr}
end

section
variable {X : Cx} {pins : List (Addr × Obj)} {σ : St} {H : Hp} {s : Shared} {a : Addr} {y v : V} {u r : Value} {o : Option V} {A : Around} {E : Value → Shared → Prop}

end

section
variable {X : Cx} {pins : List (Addr × Obj)} {σ : St} {H : Hp} {s : Shared} {a : Addr} {kvs : List (Key × V)} {k : Key} {u : Value} {A : Around} {E : Value → Shared → Prop}
end


/-! ### readings and rules -/
section
variable {X : Cx} {o i e value : Expr} {pos pos' tpos : Pos} {td ty tv : TE}
end


/-! ### displays -/
section
variable {X : Cx} {pos : Pos}
end

/-! ### methods -/
section
variable {X : Cx} {pins : List (Addr × Obj)} {σ : St} {H : Hp} {s : Shared} {a : Addr} {y d : V} {u r : Value} {o : Option V} {A : Around} {E : Value → Shared → Prop}
end

section
variable {X : Cx} {o e f : Expr} {apos cpos : Pos} {td ty tx : TE}
end

/-! ### dict(d): a copy -/
section
variable {X : Cx} {pins : List (Addr × Obj)} {σ : St} {H : Hp} {s : Shared} {a : Addr} {kvs : List (Key × V)} {A : Around} {E : Value → Shared → Prop}
end


section
variable {X : Cx} {pins : List (Addr × Obj)} {σ : St} {H : Hp} {s : Shared} {a : Addr} {y : V} {u : Value} {A : Around} {E : Value → Shared → Prop}
end
end L2

namespace L2
open PySem PySem.Spec PyProof.Rows

section
variable {prog : Program} {w : World} {A : Around} {E : Value → Shared → Prop}
end

section
variable {X : Cx}
end
end L2

namespace L2
open PySem PySem.Spec PyProof.Rows

section
variable {X : Cx} {pins : List (Addr × Obj)} {σ : St} {H : Hp} {s : Shared} {h' : Heap}
/-! ### locking a thing while a statement runs -/
end
section
variable {X : Cx}
/-! ### one iterator just laid -/
theorem pi_one {tg : Expr} {pins : List (Addr × Obj)} {σ : St} {H : Hp} {s : Shared} {R : It → Hp → Prop} {J : It} {tn : Nat → Heap → Prop} {tk : Nat} (I : Inv X pins σ H s) (o : Obj)
    (T : Turn X.prog X.w X.K tg J [s.heap.objs.size] s.heap.objs.size tn) (st : tn 0 (s.heap.push o)) (q : R J H) : PIE X pins σ tg R (.ref s.heap.objs.size) { s with heap := s.heap.push o, toks := tk } := by
  refine ⟨s.heap.objs.size, [s.heap.objs.size], tn, J, H, rfl, I.kept fun b ob e => Heap.get?_push_of_some _ e, T, st, fun b hb => ?_, q⟩
  have e : b = s.heap.objs.size := by simpa using hb
  subst e
  exact I.fpOk (Nat.le_refl _) (I.hok.fresh (Nat.le_refl _))
end

/-! ### range with a step -/
section
variable {X : Cx} {tg : Expr}
end
/-! ### reversed(list) -/
section
variable {X : Cx} {tg : Expr}
end

/-! ### a str -/
def Its (x : Str) : It := ⟨fun i _ => i < x.cps.size, fun i H v H' => H' = H ∧ ∃ c, x.cps[i]? = some c ∧ v = .str ⟨#[c]⟩, fun i _ => x.cps.size ≤ i⟩
theorem turn_str {P : Program} {w : World} {K : PySem.W.Frag} {tg : Expr} (it : Addr) (x : Str) (t : Tok) (ty : String) (hty : ty = "str_ascii_iterator" ∨ ty = "str_iterator") :
    Turn P w K tg (Its x) [it] it (fun i h => h.IsStrIter it ty x t i) where
  mem := by simp
  obj := fun i h st b hb => by
    have e : b = it := by simpa using hb
    subst e
    obtain ⟨o, e, c, d⟩ := st
    exact ⟨o, e, fun v z => by rw [d] at z; cases z⟩
  keep := fun i h h' st k => let ⟨o, ho, r⟩ := st; ⟨o, k it (by simp) o ho, r⟩
  item := by
    intro X hP hw hK hc i pins s σ H E I hf st hg
    subst hP hw hK
    obtain ⟨f0, f1, f2, f3, f4, f5⟩ := hf it (by simp)
    have W : Walks X.prog X.w X.A it [it] [it] x.cps.size (SignAt x) (fun i h => h.IsStrIter it ty x t i) := by
      rcases hty with e | e
      · rw [e]; exact Walks.strAscii (I.ok.hd hc) it x t
      · rw [e]; exact Walks.strWide (I.ok.hd hc) it x t
    have hno : ["enumerate", "zip", "dict_itemiterator", "dict_reverseitemiterator", "odict_iterator", "itertools.zip_longest", "itertools.pairwise"].contains ty = false := by
      rcases hty with e | e
      · rw [e]; decide
      · rw [e]; decide
    refine W.item i s _ _ hg st fun v h' tk hv st' kk => ?_
    obtain ⟨c, u, hcx, rfl⟩ := hv
    have I1 : Inv X pins σ H { s with heap := h', toks := tk } := I.turned (fun b o hb e => kk b o (by simpa using hb) e) f0 f1 f3 f4 f5
    obtain ⟨oi, e, cc, dd⟩ := id st'
    exact ⟨_, rfl, go_of (s := { s with heap := h', toks := tk }) e cc dd hno ⟨.str ⟨#[c]⟩, H, I1, ⟨u, rfl⟩, ⟨rfl, c, hcx, rfl⟩, st', fun b hb => (hf b hb).1⟩⟩
  done := by
    intro X hP hw hK hc i pins s σ H E I hf st hg
    subst hP hw hK
    obtain ⟨f0, f1, f2, f3, f4, f5⟩ := hf it (by simp)
    have hx : x.cps[i]? = none := Array.getElem?_eq_none hg
    rcases hty with e | e
    · rw [e] at st
      exact wpAny_pyNext_ascii_end (I.ok.hd hc) st hx fun h' eb => ⟨rfl, I.turned (t' := s.toks) (fun b o hb e => eb b o hb e) f0 f1 f3 f4 f5⟩
    · rw [e] at st
      exact wpAny_pyNext_wide_end (I.ok.hd hc) st hx fun h' eb => ⟨rfl, I.turned (t' := s.toks) (fun b o hb e => eb b o hb e) f0 f1 f3 f4 f5⟩
  self := fun A i s Q E st h => by
    rcases hty with e | e
    · rw [e] at st; exact wpAny_pyIter_striter_ascii st h
    · rw [e] at st; exact wpAny_pyIter_striter_wide st h
def iStr (te : TE) : TI := fun σ H R => te σ H fun v H1 => ∃ x, v = .str x ∧ R (Its x) H1
theorem pi_str {X : Cx} {tg e : Expr} {te : TE} (he : PE X e te) : PI X tg e (iStr te) := by
  intro pins s σ H R I h
  refine thn (he pins s σ H _ I h) fun v s1 ⟨y, H1, I1, r1, x, ex, q⟩ => ?_
  subst ex
  obtain ⟨t, rfl⟩ := r1
  cases ha : x.cps.all (· < 128)
  · exact wpAny_pyIter_wide ha (pi_one (tk := s1.toks) I1 _ (turn_str _ x t "str_iterator" (.inr rfl)) ⟨_, Heap.get?_push_size _ rfl, rfl, rfl⟩ q)
  · exact wpAny_pyIter_ascii ha (pi_one (tk := s1.toks) I1 _ (turn_str _ x t "str_ascii_iterator" (.inl rfl)) ⟨_, Heap.get?_push_size _ rfl, rfl, rfl⟩ q)

/-! ### a dict's keys: any dict's entries -/
section
variable {prog : Program} {w : World} {A : Around} {E : Value → Shared → Prop} {s : Shared}
end

/-! ### a locked dict -/
section
variable {X : Cx} {pins : List (Addr × Obj)} {σ : St} {H : Hp} {s : Shared} {d : Addr} {o : Obj}
end

section
variable {P : Program} {w : World} {K : PySem.W.Frag} {tg : Expr} {d : Addr} {o : Obj} {es : Array DictEntry} {ep : Nat}
end

/-! ### for k in d, d.keys(), d.values(), d.items() -/
section
variable {X : Cx} {tg e : Expr} {td : TE} {apos cpos : Pos}
end

/-! ### enumerate(list) -/
/-! ### zip(list, list) -/
end L2

section 
namespace Bits
open PySem PyProof.Rows

end Bits
end 

section 
namespace TL
open PySem PySem.Builtin PySem.Builtin.Str PySem.StrLaws

abbrev tl (x : Str) : List Nat := x.cps.toList
theorem len_tl (x : Str) : x.length = (tl x).length := by simp [tl, Str.length]
theorem tl_append (x y : Str) : tl (x ++ y) = tl x ++ tl y := by
  show (x ++ y).cps.toList = _
  rw [Str.cps_append, Array.toList_append]
/-! ### the list functions -/
/-! ### the model's split and partition are these -/
/-! ### computing spl and par -/
/-- joined lists -/
def joinL (S : List Nat) : List (List Nat) → List Nat
  | [] => []
  | [p] => p
  | p :: q :: r => p ++ (S ++ joinL S (q :: r))
theorem tl_join (y : Str) : ∀ parts : List Str, tl (Str.join y parts) = joinL (tl y) (parts.map tl)
  | [] => rfl
  | [_] => rfl
  | x :: z :: r => by
    show tl (x ++ y ++ Str.join y (z :: r)) = tl x ++ (tl y ++ joinL (tl y) ((z :: r).map tl))
    rw [tl_append, tl_append, tl_join y (z :: r), List.append_assoc]
theorem join_eq (y : Str) (parts : List Str) : Txt.join y parts = Str.join y parts := glued_eq_join y parts
/-! ### digits -/
/-! ### words: x.split() -/
end TL
end 

namespace L2
open PySem PySem.Spec PyProof.Rows

theorem strs_of_vals : ∀ {ys : List Str} {us : List Value}, Vals (ys.map V.str) us → StrsAre us ys
  | [], _, .nil => .nil
  | y :: ys, _, .cons r t => by
    obtain ⟨k, rfl⟩ := r
    exact .cons y k (strs_of_vals t)

section
variable {X : Cx} {pins : List (Addr × Obj)} {σ : St} {H : Hp} {s : Shared} {Q : VK}
end

section
variable {X : Cx}

/-- sep.join(a list | a tuple of texts) -/
theorem mt_join : MtR X "str.join" (fun x xs H Q => ∃ a p, ∃ ys : List Str, x = .str a ∧ xs = [.ref p] ∧ (SqL X.K H p (ys.map V.str) ∨ SqT X.K H p (ys.map V.str)) ∧
    (ys.map (·.length)).sum + ys.length * a.length ≤ 16777216 ∧ Q (.str (Txt.join a ys)) H) := by
  intro pins s σ H x xs v us Q I rx rs h
  obtain ⟨a, p, ys, rfl, rfl, hp, hz, h⟩ := h
  obtain ⟨t, rfl⟩ := rx
  cases rs with
  | cons r1 rs =>
    cases rs
    cases r1
    rcases hp with hp | hp
    · obtain ⟨its, r, ⟨o, n, ho, hc, _, hd⟩, _⟩ := I.list hp
      exact PyProof.Rows.join_list (items := its.toArray) ⟨o, ho, hc, n, hd⟩ (by rw [List.toList_toArray]; exact strs_of_vals r) hz fun t' k => ⟨.str _, H, I.tok k, ⟨t', rfl⟩, h⟩
    · obtain ⟨its, r, ht, _⟩ := I.tuple hp
      exact PyProof.Rows.join_tuple (items := its.toArray) ht (by rw [List.toList_toArray]; exact strs_of_vals r) hz fun t' k => ⟨.str _, H, I.tok k, ⟨t', rfl⟩, h⟩

/-! ### of a text alone -/
/-! ### of a text and a text -/
end

section
variable {X : Cx} {o e : Expr} {to te : TE}
def tM1 (r : V → List V → Hp → VK → Prop) (to te : TE) : TE := fun σ H Q => to σ H fun x H1 => (∃ a, x = .str a) ∧ te σ H1 fun y H2 => r x [y] H2 Q
theorem pe_m1 {id : String} {name : Str} {apos pos : Pos} {r : V → List V → Hp → VK → Prop} (slot : Slot "str" name id) (ty : typeOf (.builtin id) = pure (.type "method_descriptor")) (rule : MtR X id r) (ho : PE X o to) (he : PE X e te)
    (hs : starEach [e] X.env = [(false, eval e X.env)] := by rfl) (hbase : attributeBase o name X.env (eval o X.env) = eval o X.env := by rfl) (hline : (apos.endLine == pos.line) = true := by rfl) :
    PE X (.Call (.Attribute o name apos) [e] [] pos) (tM1 r to te) := by
  intro pins s σ H Q I h
  refine PySem.Call_method1 hbase hs hline (thn (ho pins s σ H _ I h) fun v s1 ⟨x, H1, I1, r1, q1⟩ => ?_)
  obtain ⟨⟨a, rfl⟩, q1⟩ := q1
  obtain ⟨t, rfl⟩ := _root_.id r1
  refine ⟨"str", _, F.plainAttrs_str, slot, ty, typeIs_str _ _ _, (fun _ e => nomatch e), Calls.callWith_builtin rfl (Calls.evalArgs_plain (Calls.spliced_cons ?_))⟩
  exact thn (he pins s1 σ H1 _ I1 q1) fun u s2 ⟨y, H2, I2, r2, q2⟩ => Calls.spliced_nil (rule pins s2 σ H2 _ [y] _ [u] Q I2 r1 (.cons r2 .nil) q2)

theorem pe_join {apos pos : Pos} (ho : PE X o to) (he : PE X e te) (hs : starEach [e] X.env = [(false, eval e X.env)] := by rfl) (hbase : attributeBase o "join" X.env (eval o X.env) = eval o X.env := by rfl) (hline : (apos.endLine == pos.line) = true := by rfl) :
    PE X (.Call (.Attribute o "join" apos) [e] [] pos) (tM1 (fun x xs H Q => ∃ a p, ∃ ys : List Str, x = .str a ∧ xs = [.ref p] ∧ (SqL X.K H p (ys.map V.str) ∨ SqT X.K H p (ys.map V.str)) ∧
      (ys.map (·.length)).sum + ys.length * a.length ≤ 16777216 ∧ Q (.str (Txt.join a ys)) H) to te) :=
  pe_m1 F.slot_str_join F.type_str_join mt_join ho he hs hbase hline
end
end L2

namespace L2
open PySem PySem.Spec PyProof.Rows

section
variable {X : Cx}
end

/-! ### slices of a text -/
end L2

end
section
set_option Elab.async false
set_option linter.all false
set_option maxRecDepth 100000
set_option maxHeartbeats 2000000
namespace L2
open PySem PySem.Spec PyProof.Rows
open PySem.W (WData Codec OpenSpec Well WellAll ReadsW ReadsAllW)
/-! ### an answer as data -/
mutual
/-- x stands for the datum d, lists and tuples all the way -/
inductive Dw (K : PySem.W.Frag) (H : Hp) : V → WData → Prop
  | non : Dw K H .non .none
  | bl (b : Bool) : Dw K H (.bl b) (.bool b)
  | int (i : Int) : Dw K H (.int i) (.int i)
  | str (x : Str) : Dw K H (.str x) (.str x)
  | byt (b : Array UInt8) : Dw K H (.byt b) (.bytes b.toList)
  | lst {a : Addr} {xs : List V} {ds : List WData} : SqL K H a xs → DwAll K H xs ds → Dw K H (.ref a) (.list ds)
  | tup {a : Addr} {xs : List V} {ds : List WData} : SqT K H a xs → DwAll K H xs ds → Dw K H (.ref a) (.tuple ds)
inductive DwAll (K : PySem.W.Frag) (H : Hp) : List V → List WData → Prop
  | nil : DwAll K H [] []
  | cons {v : V} {vs : List V} {d : WData} {ds : List WData} : Dw K H v d → DwAll K H vs ds → DwAll K H (v :: vs) (d :: ds)
end
theorem dw_ints {K : PySem.W.Frag} {H : Hp} : ∀ ns : List Int, DwAll K H (ns.map V.int) (ns.map WData.int)
  | [] => .nil
  | n :: r => .cons (.int n) (dw_ints r)
theorem ints_dw {K : PySem.W.Frag} {H : Hp} : ∀ (ns : List Int) (xs : List V), DwAll K H xs (ns.map WData.int) → xs = ns.map V.int
  | [], xs, h => by
    cases h
    rfl
  | n :: r, xs, h => by
    cases h with
    | cons h1 h2 =>
      cases h1
      rw [ints_dw r _ h2] <;> rfl
section
variable {P : Program} {w : World} {K : PySem.W.Frag} {H : Hp} {h : Heap} {R : PySem.W.WRecords} {cl : Str → Option Addr}
theorem sqL_at {a : Addr} {xs : List V} (hok : HOk P w H h) (KX : K.In h) (q : SqL K H a xs) : ∃ (its : List Value) (o : Obj) (n : Nat), Vals xs its ∧ h.get? a = some o ∧ o.cls = .type "list" ∧ o.data = .seq its.toArray n := by
  rcases q with q | ⟨o, its, n, e, hc, _, hd, _, hv⟩
  · obtain ⟨_, its, n, hv, e⟩ := (show ObjOk P w H h a (.lst xs) from q.ok hok)
    exact ⟨its, _, n, hv, e, rfl, rfl⟩
  · exact ⟨its.toList, o, n, hv, KX _ _ e, hc, by simp [hd]⟩
theorem sqT_at {a : Addr} {xs : List V} (hok : HOk P w H h) (KX : K.In h) (q : SqT K H a xs) : ∃ (its : List Value) (o : Obj) (n : Nat), Vals xs its ∧ h.get? a = some o ∧ o.cls = .type "tuple" ∧ o.data = .seq its.toArray n := by
  rcases q with q | ⟨o, its, n, e, hc, hd, _, hv⟩
  · obtain ⟨_, its, hv, o, e, hc, n, hd⟩ := (show ObjOk P w H h a (.tup xs) from q.ok hok)
    exact ⟨its, o, n, hv, e, hc, hd⟩
  · exact ⟨its.toList, o, n, hv, KX _ _ e, hc, by simp [hd]⟩
mutual
theorem Dw.reads (hok : HOk P w H h) (KX : K.In h) : ∀ (d : WData) (v : V) (u : Value), Dw K H v d → RelV v u → ∃ as, ReadsW R cl h u d as
  | .none, _, _, x, r => by
    cases x
    cases r
    exact ⟨_, ReadsW.none⟩
  | .bool b, _, _, x, r => by
    cases x
    cases r
    exact ⟨_, ReadsW.bool b⟩
  | .int i, _, _, x, r => by
    cases x
    obtain ⟨t, rfl⟩ := r
    exact ⟨_, ReadsW.int i t⟩
  | .str s, _, _, x, r => by
    cases x
    obtain ⟨t, rfl⟩ := r
    exact ⟨_, ReadsW.str s t⟩
  | .bytes b, _, _, x, r => by
    cases x
    obtain ⟨t, rfl⟩ := r
    exact ⟨_, ReadsW.bytes _ t⟩
  | .list ds, _, _, x, r => by
    cases x with
    | lst hs ha =>
      cases r
      obtain ⟨its, o, n, rv, ho, hc, hd⟩ := sqL_at hok KX hs
      obtain ⟨as, hr⟩ := Dw.readsAll hok KX ds _ its ha rv
      exact ⟨_, ReadsW.list ho hc hd hr⟩
  | .tuple ds, _, _, x, r => by
    cases x with
    | tup hs ha =>
      cases r
      obtain ⟨its, o, n, rv, ho, hc, hd⟩ := sqT_at hok KX hs
      obtain ⟨as, hr⟩ := Dw.readsAll hok KX ds _ its ha rv
      exact ⟨_, ReadsW.tuple ho hc hd hr⟩
  | .float _, _, _, x, _ => by cases x
  | .dict _, _, _, x, _ => by cases x
  | .bytearray _, _, _, x, _ => by cases x
  | .set _, _, _, x, _ => by cases x
  | .frozenset _, _, _, x, _ => by cases x
  | .obj _ _, _, _, x, _ => by cases x
theorem Dw.readsAll (hok : HOk P w H h) (KX : K.In h) : ∀ (ds : List WData) (vs : List V) (us : List Value), DwAll K H vs ds → Vals vs us → ∃ as, ReadsAllW R cl h us ds as
  | [], _, _, x, r => by
    cases x
    cases r
    exact ⟨_, ReadsAllW.nil⟩
  | d :: ds, _, _, x, r => by
    cases x with
    | cons h1 h2 =>
      cases r with
      | cons r1 r2 =>
        obtain ⟨as, q1⟩ := Dw.reads hok KX d _ _ h1 r1
        obtain ⟨bs, q2⟩ := Dw.readsAll hok KX ds _ _ h2 r2
        exact ⟨_, ReadsAllW.cons q1 q2⟩
end
end
/-! ### the arguments -/
mutual
/-- data that a codec tells -/
def plW : WData → Bool
  | .none => true
  | .bool _ => true
  | .int _ => true
  | .str _ => true
  | .bytes _ => true
  | .list xs => plWs xs
  | .tuple xs => plWs xs
  | _ => false
def plWs : List WData → Bool
  | [] => true
  | x :: r => plW x && plWs r
end
theorem plWs_map {α : Type} {f : α → WData} (h : ∀ a, plW (f a) = true) : ∀ l : List α, plWs (l.map f) = true
  | [] => rfl
  | x :: r => by
    show (plW (f x) && plWs (r.map f)) = true
    rw [h x, plWs_map h r] <;> rfl
theorem pl_enc : ∀ (c : Codec) (a : c.denote), plW (c.enc a) = true
  | .unit, _ => rfl
  | .bool, _ => rfl
  | .int _ _, _ => rfl
  | .nat _ _, _ => rfl
  | .u8, _ => rfl
  | .bytes _ _, _ => rfl
  | .text _ _ _ _, _ => rfl
  | .list _ _ c, a => plWs_map (fun x => pl_enc c x) a
  | .pair c d, a => by
    show (plW (c.enc a.1) && (plW (d.enc a.2) && true)) = true
    rw [pl_enc c a.1, pl_enc d a.2] <;> rfl
  | .triple c d e, a => by
    show (plW (c.enc a.1) && (plW (d.enc a.2.1) && (plW (e.enc a.2.2) && true))) = true
    rw [pl_enc c a.1, pl_enc d a.2.1, pl_enc e a.2.2] <;> rfl
  | .option c, none => rfl
  | .option c, some x => pl_enc c x
theorem pl_encAll : ∀ (cs : List Codec) (a : Codec.denoteAll cs), plWs (Codec.encAll cs a) = true
  | [], _ => rfl
  | c :: cs, a => by
    show (plW (c.enc a.1) && plWs (Codec.encAll cs a.2)) = true
    rw [pl_enc c a.1, pl_encAll cs a.2] <;> rfl
theorem weight_mem : ∀ {xs : List WData} {d : WData}, d ∈ xs → d.weight ≤ WData.weightAll xs
  | [], d, h => absurd h (by simp)
  | x :: r, d, h => by
    show d.weight ≤ x.weight + 1 + WData.weightAll r
    rcases List.mem_cons.mp h with e | m
    · rw [e]
      omega
    · have z := weight_mem m
      omega
def toV : Value → V
  | .none => .non
  | .bool b => .bl b
  | .int i _ => .int i
  | .str x _ => .str x
  | .bytes b _ => .byt b
  | .ref a => .ref a
  | _ => .non
/-- a value of the arguments, its objects among A -/
def OkU (A : List Addr) : Value → Prop
  | .none => True
  | .bool _ => True
  | .int _ _ => True
  | .str _ _ => True
  | .bytes _ _ => True
  | .ref a => a ∈ A
  | _ => False
theorem OkU.mono {A B : List Addr} (h : ∀ a ∈ A, a ∈ B) : ∀ {u : Value}, OkU A u → OkU B u := fun {u} x => by
  cases u with
  | ref a => exact h a x
  | none => trivial
  | bool b => trivial
  | int i t => trivial
  | str s t => trivial
  | bytes b t => trivial
  | _ => exact False.elim x
theorem relV_toV {A : List Addr} {u : Value} (x : OkU A u) : RelV (toV u) u := by
  cases u with
  | ref a => rfl
  | none => rfl
  | bool b => rfl
  | int i t => exact ⟨t, rfl⟩
  | str s t => exact ⟨t, rfl⟩
  | bytes b t => exact ⟨t, rfl⟩
  | _ => exact False.elim x
theorem vals_toV {A : List Addr} : ∀ {vs : List Value}, (∀ u ∈ vs, OkU A u) → Vals (vs.map toV) vs
  | [], _ => .nil
  | u :: r, h => .cons (relV_toV (h u (List.mem_cons_self ..))) (vals_toV fun x hx => h x (List.mem_cons_of_mem _ hx))
/-- an object of the arguments -/
def ArgOb (h : Heap) (A : List Addr) (a : Addr) : Prop := ∃ vs : List Value, vs.length ≤ sizeLine ∧ (∀ u ∈ vs, OkU A u) ∧
  (h.get? a = some { cls := .type "list", data := .seq vs.toArray } ∨ h.get? a = some { cls := .type "tuple", data := .seq vs.toArray })
theorem ArgOb.mono {h : Heap} {A B : List Addr} {a : Addr} (k : ∀ a ∈ A, a ∈ B) (x : ArgOb h A a) : ArgOb h B a := by
  obtain ⟨vs, h1, h2, h3⟩ := x
  exact ⟨vs, h1, fun u hu => (h2 u hu).mono k, h3⟩
theorem wellAll_len {P : Params} {h : Heap} : ∀ {vs : List Value} {ds : List WData}, WellAll P h vs ds → vs.length = ds.length
  | _, _, .nil => rfl
  | _, _, .cons _ b => by
    show _ + 1 = _ + 1
    rw [wellAll_len b]
theorem well_list {P : Params} {h : Heap} {v : Value} {ds : List WData} (x : Well P h v (.list ds)) : ∃ (a : Addr) (vs : List Value), v = .ref a ∧ h.get? a = some { cls := .type "list", data := .seq vs.toArray } ∧ WellAll P h vs ds := by
  cases x with
  | list ho hall => exact ⟨_, _, rfl, ho, hall⟩
theorem well_tuple {P : Params} {h : Heap} {v : Value} {ds : List WData} (x : Well P h v (.tuple ds)) : ∃ (a : Addr) (vs : List Value), v = .ref a ∧ h.get? a = some { cls := .type "tuple", data := .seq vs.toArray } ∧ WellAll P h vs ds := by
  cases x with
  | tuple ho hall => exact ⟨_, _, rfl, ho, hall⟩
theorem well_cons {P : Params} {h : Heap} {us : List Value} {d : WData} {ds : List WData} (x : WellAll P h us (d :: ds)) : ∃ (v : Value) (vs : List Value), us = v :: vs ∧ Well P h v d ∧ WellAll P h vs ds := by
  cases x with
  | cons a b => exact ⟨_, _, rfl, a, b⟩
theorem line_of {n : Nat} (h : n ≤ 1048576) : n ≤ sizeLine := Nat.le_trans h (by decide)
section
variable {P : Params} {h : Heap}
mutual
theorem area_one : ∀ (d : WData) (v : Value), Well P h v d → plW d = true → d.weight ≤ 1048576 → ∃ A : List Addr, OkU A v ∧ ∀ a ∈ A, ArgOb h A a
  | .none, _, x, _, _ => by
    cases x
    exact ⟨[], trivial, fun a m => absurd m (by simp)⟩
  | .bool b, _, x, _, _ => by
    cases x
    exact ⟨[], trivial, fun a m => absurd m (by simp)⟩
  | .int i, _, x, _, _ => by
    cases x
    exact ⟨[], trivial, fun a m => absurd m (by simp)⟩
  | .str s, _, x, _, _ => by
    cases x
    exact ⟨[], trivial, fun a m => absurd m (by simp)⟩
  | .bytes b, _, x, _, _ => by
    cases x
    exact ⟨[], trivial, fun a m => absurd m (by simp)⟩
  | .list ds, _, x, p, z => by
    obtain ⟨a, vs, rfl, ho, hall⟩ := well_list x
    have z2 : WData.weightAll ds ≤ 1048576 := z
    obtain ⟨A, h1, h2⟩ := area_all ds _ hall p fun d hd => Nat.le_trans (weight_mem hd) z2
    have k : ∀ b ∈ A, b ∈ a :: A := fun b hb => List.mem_cons_of_mem _ hb
    refine ⟨a :: A, List.mem_cons_self .., fun b hb => ?_⟩
    rcases List.mem_cons.mp hb with e | m
    · rw [e]
      exact ⟨vs, line_of (by rw [wellAll_len hall]; exact Nat.le_trans (PySem.W.length_le_weightAllW ds) z2), fun u hu => (h1 u hu).mono k, .inl ho⟩
    · exact (h2 b m).mono k
  | .tuple ds, _, x, p, z => by
    obtain ⟨a, vs, rfl, ho, hall⟩ := well_tuple x
    have z2 : WData.weightAll ds ≤ 1048576 := z
    obtain ⟨A, h1, h2⟩ := area_all ds _ hall p fun d hd => Nat.le_trans (weight_mem hd) z2
    have k : ∀ b ∈ A, b ∈ a :: A := fun b hb => List.mem_cons_of_mem _ hb
    refine ⟨a :: A, List.mem_cons_self .., fun b hb => ?_⟩
    rcases List.mem_cons.mp hb with e | m
    · rw [e]
      exact ⟨vs, line_of (by rw [wellAll_len hall]; exact Nat.le_trans (PySem.W.length_le_weightAllW ds) z2), fun u hu => (h1 u hu).mono k, .inr ho⟩
    · exact (h2 b m).mono k
  | .float _, _, _, p, _ => Bool.noConfusion (show false = true from p)
  | .dict _, _, _, p, _ => Bool.noConfusion (show false = true from p)
  | .bytearray _, _, _, p, _ => Bool.noConfusion (show false = true from p)
  | .set _, _, _, p, _ => Bool.noConfusion (show false = true from p)
  | .frozenset _, _, _, p, _ => Bool.noConfusion (show false = true from p)
  | .obj _ _, _, _, p, _ => Bool.noConfusion (show false = true from p)
theorem area_all : ∀ (ds : List WData) (vs : List Value), WellAll P h vs ds → plWs ds = true → (∀ d ∈ ds, d.weight ≤ 1048576) → ∃ A : List Addr, (∀ u ∈ vs, OkU A u) ∧ ∀ a ∈ A, ArgOb h A a
  | [], _, x, _, _ => by
    cases x
    exact ⟨[], fun u m => absurd m (by simp), fun a m => absurd m (by simp)⟩
  | d :: ds, _, x, p, z => by
    obtain ⟨v, vs, rfl, x1, x2⟩ := well_cons x
    have q : plW d = true ∧ plWs ds = true := Bool.and_eq_true_iff.mp p
    obtain ⟨A, a1, a2⟩ := area_one d v x1 q.1 (z d (List.mem_cons_self ..))
    obtain ⟨B, b1, b2⟩ := area_all ds vs x2 q.2 fun e he => z e (List.mem_cons_of_mem _ he)
    have kA : ∀ b ∈ A, b ∈ A ++ B := fun b hb => List.mem_append.mpr (.inl hb)
    have kB : ∀ b ∈ B, b ∈ A ++ B := fun b hb => List.mem_append.mpr (.inr hb)
    refine ⟨A ++ B, fun u hu => ?_, fun b hb => ?_⟩
    · rcases List.mem_cons.mp hu with e | m
      · rw [e]
        exact a1.mono kA
      · exact (b1 u m).mono kB
    · rcases List.mem_append.mp hb with m | m
      · exact (a2 b m).mono kA
      · exact (b2 b m).mono kB
end
end
/-- what is tracked of an argument's object -/
def hoOf (o : Obj) : Option HO := match o.data with
  | .seq vs _ => if (o.cls == Value.type "list") = true then some (.frz o (.lst (vs.toList.map toV))) else some (.frz o (.tup (vs.toList.map toV)))
  | _ => none
def argH (K : PySem.W.Frag) (h : Heap) (A : List Addr) : Hp := fun b => if b ∈ A then (if (K.lookup b).isNone = true then (h.get? b).bind hoOf else none) else none
/-- nothing is tracked but what is known to the object -/
def OnlyF (H : Hp) : Prop := ∀ b, H b = none ∨ ∃ o u, H b = some (.frz o u)
theorem hoOf_lst (vs : List Value) : hoOf { cls := .type "list", data := .seq vs.toArray } = some (.frz { cls := .type "list", data := .seq vs.toArray } (.lst (vs.map toV))) := by
  show (if (Value.type "list" == Value.type "list") = true then some (HO.frz { cls := .type "list", data := .seq vs.toArray } (.lst (vs.toArray.toList.map toV))) else some (HO.frz { cls := .type "list", data := .seq vs.toArray } (.tup (vs.toArray.toList.map toV)))) = _
  rw [if_pos (beq_self_eq_true _)]
theorem hoOf_tup (vs : List Value) : hoOf { cls := .type "tuple", data := .seq vs.toArray } = some (.frz { cls := .type "tuple", data := .seq vs.toArray } (.tup (vs.map toV))) := by
  show (if (Value.type "tuple" == Value.type "list") = true then some (HO.frz { cls := .type "tuple", data := .seq vs.toArray } (.lst (vs.toArray.toList.map toV))) else some (HO.frz { cls := .type "tuple", data := .seq vs.toArray } (.tup (vs.toArray.toList.map toV)))) = _
  rw [if_neg (by decide)]
section
variable {P : Program} {w : World} {K : PySem.W.Frag} {h : Heap} {A : List Addr}
theorem argH_at {b : Addr} {o : Obj} (hb : b ∈ A) (hk : K.lookup b = none) (e : h.get? b = some o) : argH K h A b = hoOf o := by
  unfold argH
  rw [if_pos hb, hk, if_pos (show (none : Option Obj).isNone = true from rfl), e] <;> rfl
theorem of_argH {b : Addr} {u : HO} (q : argH K h A b = some u) : b ∈ A ∧ K.lookup b = none := by
  unfold argH at q
  by_cases hb : b ∈ A
  · rw [if_pos hb] at q
    cases hk : K.lookup b with
    | none => exact ⟨hb, rfl⟩
    | some o =>
      rw [hk, if_neg (by simp)] at q
      cases q
  · rw [if_neg hb] at q
    cases q
/-- what stands tracked -/
theorem argH_is (ar : ∀ a ∈ A, ArgOb h A a) {b : Addr} {u : HO} (q : argH K h A b = some u) : K.lookup b = none ∧ ∃ vs : List Value, vs.length ≤ sizeLine ∧ (∀ u ∈ vs, OkU A u) ∧
    ((h.get? b = some { cls := .type "list", data := .seq vs.toArray } ∧ u = .frz { cls := .type "list", data := .seq vs.toArray } (.lst (vs.map toV))) ∨
     (h.get? b = some { cls := .type "tuple", data := .seq vs.toArray } ∧ u = .frz { cls := .type "tuple", data := .seq vs.toArray } (.tup (vs.map toV)))) := by
  obtain ⟨hb, hk⟩ := of_argH q
  obtain ⟨vs, h1, h2, h3⟩ := ar b hb
  refine ⟨hk, vs, h1, h2, ?_⟩
  rcases h3 with e | e
  · rw [argH_at hb hk e, hoOf_lst] at q
    exact .inl ⟨e, (Option.some.inj q).symm⟩
  · rw [argH_at hb hk e, hoOf_tup] at q
    exact .inr ⟨e, (Option.some.inj q).symm⟩
theorem argH_only (ar : ∀ a ∈ A, ArgOb h A a) : OnlyF (argH K h A) := fun b => by
  cases q : argH K h A b with
  | none => exact .inl rfl
  | some u =>
    obtain ⟨_, vs, _, _, ⟨_, e⟩ | ⟨_, e⟩⟩ := argH_is ar q
    · exact .inr ⟨_, _, by rw [e]⟩
    · exact .inr ⟨_, _, by rw [e]⟩
theorem argH_ok (ar : ∀ a ∈ A, ArgOb h A a) : HOk P w (argH K h A) h := fun b u q => by
  obtain ⟨_, vs, h1, h2, ⟨e, rfl⟩ | ⟨e, rfl⟩⟩ := argH_is ar q
  · exact ⟨e, by rw [List.length_map]; exact h1, vs, _, vals_toV h2, e⟩
  · exact ⟨e, by rw [List.length_map]; exact h1, vs, vals_toV h2, _, e, rfl, _, rfl⟩
theorem seq_inj {c c' : Value} {vs us : List Value} (e : (some { cls := c, data := .seq vs.toArray } : Option Obj) = some { cls := c', data := .seq us.toArray }) : c = c' ∧ vs = us := by
  have e1 := Option.some.inj e
  have e2 : c = c' := congrArg Obj.cls e1
  have e3 : Data.seq vs.toArray = Data.seq us.toArray := congrArg Obj.data e1
  injection e3 with e4
  refine ⟨e2, ?_⟩
  have e5 := congrArg Array.toList e4
  simpa using e5
/-- a list argument -/
theorem argL (KX : K.In h) (ar : ∀ a ∈ A, ArgOb h A a) {a : Addr} {vs : List Value} (ha : a ∈ A) (e : h.get? a = some { cls := .type "list", data := .seq vs.toArray }) : (∀ u ∈ vs, OkU A u) ∧ SqL K (argH K h A) a (vs.map toV) := by
  obtain ⟨us, h1, h2, h3⟩ := ar a ha
  have hu : us = vs := by
    rcases h3 with q | q
    · rw [e] at q
      exact (seq_inj q).2.symm
    · rw [e] at q
      exact absurd (Value.type.inj (seq_inj q).1) (by decide)
  subst hu
  refine ⟨h2, ?_⟩
  cases hk : K.lookup a with
  | none => exact .inl (.inr ⟨_, by rw [argH_at ha hk e, hoOf_lst]⟩)
  | some o =>
    have e2 := KX a o hk
    rw [e] at e2
    obtain rfl := Option.some.inj e2
    exact .inr ⟨_, us.toArray, _, hk, rfl, rfl, rfl, by rw [List.size_toArray]; exact h1, by simpa using vals_toV h2⟩
theorem argT (KX : K.In h) (ar : ∀ a ∈ A, ArgOb h A a) {a : Addr} {vs : List Value} (ha : a ∈ A) (e : h.get? a = some { cls := .type "tuple", data := .seq vs.toArray }) : (∀ u ∈ vs, OkU A u) ∧ SqT K (argH K h A) a (vs.map toV) := by
  obtain ⟨us, h1, h2, h3⟩ := ar a ha
  have hu : us = vs := by
    rcases h3 with q | q
    · rw [e] at q
      exact absurd (Value.type.inj (seq_inj q).1) (by decide)
    · rw [e] at q
      exact (seq_inj q).2.symm
  subst hu
  refine ⟨h2, ?_⟩
  cases hk : K.lookup a with
  | none => exact .inl (.inr ⟨_, by rw [argH_at ha hk e, hoOf_tup]⟩)
  | some o =>
    have e2 := KX a o hk
    rw [e] at e2
    obtain rfl := Option.some.inj e2
    exact .inr ⟨_, us.toArray, _, hk, rfl, rfl, by rw [List.size_toArray]; exact h1, by simpa using vals_toV h2⟩
mutual
theorem dw_one {Pm : Params} (KX : K.In h) (ar : ∀ a ∈ A, ArgOb h A a) : ∀ (d : WData) (v : Value), Well Pm h v d → plW d = true → OkU A v → Dw K (argH K h A) (toV v) d
  | .none, _, x, _, _ => by
    cases x
    exact .non
  | .bool b, _, x, _, _ => by
    cases x
    exact .bl b
  | .int i, _, x, _, _ => by
    cases x
    exact .int i
  | .str s, _, x, _, _ => by
    cases x
    exact .str s
  | .bytes b, _, x, _, _ => by
    cases x
    have z := Dw.byt (K := K) (H := argH K h A) b.toArray
    exact z
  | .list ds, _, x, p, hu => by
    obtain ⟨a, vs, rfl, ho, hall⟩ := well_list x
    obtain ⟨h2, hs⟩ := argL KX ar hu ho
    exact .lst hs (dw_all KX ar ds _ hall p h2)
  | .tuple ds, _, x, p, hu => by
    obtain ⟨a, vs, rfl, ho, hall⟩ := well_tuple x
    obtain ⟨h2, hs⟩ := argT KX ar hu ho
    exact .tup hs (dw_all KX ar ds _ hall p h2)
  | .float _, _, _, p, _ => Bool.noConfusion (show false = true from p)
  | .dict _, _, _, p, _ => Bool.noConfusion (show false = true from p)
  | .bytearray _, _, _, p, _ => Bool.noConfusion (show false = true from p)
  | .set _, _, _, p, _ => Bool.noConfusion (show false = true from p)
  | .frozenset _, _, _, p, _ => Bool.noConfusion (show false = true from p)
  | .obj _ _, _, _, p, _ => Bool.noConfusion (show false = true from p)
theorem dw_all {Pm : Params} (KX : K.In h) (ar : ∀ a ∈ A, ArgOb h A a) : ∀ (ds : List WData) (vs : List Value), WellAll Pm h vs ds → plWs ds = true → (∀ u ∈ vs, OkU A u) → DwAll K (argH K h A) (vs.map toV) ds
  | [], _, x, _, _ => by
    cases x
    exact .nil
  | d :: ds, _, x, p, hu => by
    obtain ⟨v, vs, rfl, x1, x2⟩ := well_cons x
    have q : plW d = true ∧ plWs ds = true := Bool.and_eq_true_iff.mp p
    exact .cons (dw_one KX ar d v x1 q.1 (hu _ (List.mem_cons_self ..))) (dw_all KX ar ds vs x2 q.2 fun u m => hu u (List.mem_cons_of_mem _ m))
end
end
/-! ### the call -/
theorem spec_call {P : Program} {w : World} {K : PySem.W.Frag} {mg mb : Str → Option Value} {CX : CXT} {k : Nat} {fa : Addr} {fd : FuncData} {ps : List Str} {sp : Sp} {s₁ : Shared} {vals : List Value} {ds : List WData} {R : PySem.W.WRecords} {cl : Str → Option Addr} {d0 : WData}
    (KX : K.In s₁.heap) (hns : s₁.heap.Ns mainGlobals mg) (hb : s₁.heap.Ns builtinsNs mb) (hbb : ∀ x : Str, x ≠ "__name__" → mb x = bootBuiltins x) (hlim : s₁.heap.NoLimit) (hg : s₁.gens = #[])
    (hwl : WellAll w.params s₁.heap vals ds) (hpl : plWs ds = true) (hwt : ∀ d ∈ ds, d.weight ≤ 1048576) (hr : Room k callerA)
    (F : ∀ base : Heap, K.In base → base.Ns mainGlobals mg → FnOk P w K mg base CX k fa fd ps sp) (hbind : ∀ (s : Shared) (us : List Value), us.length = ps.length → BindsTo s fd ⟨us, []⟩ (ps.zip us)) (hlen : ds.length = ps.length)
    (hsp : ∀ (H : Hp) (xs : List V), OnlyF H → DwAll K H xs ds → sp xs H (fun v H' => Dw K H' v d0) fun _ _ _ => False)
    (hCX : ∀ H e s', CX [] H s₁ (fun _ _ _ => False) e s' → False) :
    codeAny (model P w) callerA (.call (.ref fa) ⟨vals, []⟩) (fun r s' => ∃ u as, r = .ok (.ret u) ∧ ReadsW R cl s'.heap u d0 as ∧ OldK s₁.heap s'.heap ∧ s'.os = s₁.os ∧ AllBare s'.gens) s₁ := by
  obtain ⟨A, ho, ar⟩ := area_all ds vals hwl hpl hwt
  have hO : OnlyF (argH K s₁.heap A) := argH_only ar
  have hok : HOk P w (argH K s₁.heap A) s₁.heap := argH_ok ar
  have hS := dw_all KX ar ds vals hwl hpl ho
  have hV := vals_toV ho
  have hK : ∀ b u, argH K s₁.heap A b = some u → K.lookup b = none := fun b u q => (argH_is ar q).1
  have noA : ∀ {b : Addr} {o : Obj} {es : Array DictEntry} {ep : Nat}, s₁.heap.get? b = some o → o.data = .dict es ep → argH K s₁.heap A b = none := fun {b o es ep} e d => by
    cases q : argH K s₁.heap A b with
    | none => rfl
    | some u =>
      obtain ⟨_, vs, _, _, ⟨e2, _⟩ | ⟨e2, _⟩⟩ := argH_is ar q
      · rw [e2] at e
        cases e
        have d' : Data.seq vs.toArray _ = Data.dict es ep := d
        cases d'
      · rw [e2] at e
        cases e
        have d' : Data.seq vs.toArray _ = Data.dict es ep := d
        cases d'
  generalize argH K s₁.heap A = H at hO hok hS hK noA
  have base_of : ∀ {b : Addr} {o : Obj}, s₁.heap.get? b = some o → H b = none → (hidT s₁.heap H).get? b = some o := fun e n => hidT_get e n
  have nsK : ∀ {b : Addr} {m : Str → Option Value}, s₁.heap.Ns b m → (hidT s₁.heap H).Ns b m := fun {b m} ⟨o, es, ep, e, d, r⟩ => ⟨o, es, ep, base_of e (noA e d), d, r⟩
  have nK : ∀ b o, K.lookup b = some o → H b = none := fun b o e => by
    cases q : H b with
    | none => rfl
    | some u =>
      rw [hK b u q] at e
      cases e
  have hKb : K.In (hidT s₁.heap H) := fun b o e => base_of (KX b o e) (nK b o e)
  have hM : Mod K mg (hidT s₁.heap H) := ⟨hKb, nsK hns, ⟨mb, nsK hb, hbb⟩, let ⟨mc, h1, h2⟩ := hlim; ⟨mc, nsK h1, h2⟩⟩
  have e0 : Env0 P w K mg (hidT s₁.heap H) callerA [] s₁ H := ⟨rfl, hM, fun b o e => of_hidT e, Nat.le_of_eq (hidT_size _ _), trivial, fun b hb => absurd (show b ∈ ([] : List Addr) from hb) (by simp), hok, .of_eq hg⟩
  have hl : vals.length = ps.length := by rw [wellAll_len hwl]; exact hlen
  refine codeAny_mono ((F _ hKb (nsK hns)).run callerA [] s₁ H ⟨vals, []⟩ vals (vals.map toV) _ _ hr e0 (hbind s₁ vals hl) hV (hsp H _ hO hS)) fun r s' x => ?_
  cases r with
  | error e => exact (hCX H e s' x).elim
  | ok fl =>
    cases fl with
    | next => exact False.elim x
    | brk => exact False.elim x
    | cont => exact False.elim x
    | ret u =>
      obtain ⟨v, H', os, bare, un, hok', r', q⟩ := x
      have kept : ∀ b o, s₁.heap.get? b = some o → s'.heap.get? b = some o := fun b o e => by
        cases q2 : H b with
        | none => exact un.keep b o e q2 (by intro z; exact absurd (show b ∈ ([] : List Addr) from z) (by simp)) (by simp)
        | some u2 =>
          rcases hO b with z | ⟨ob, u3, z⟩
          · rw [q2] at z
            cases z
          · have z2 := un.frzs b ob _ z
            obtain ⟨e1, _⟩ := hok b _ z
            obtain ⟨e2, _⟩ := hok' b _ z2
            rw [e] at e1
            cases e1
            exact e2
      have KX' : K.In s'.heap := fun b o e => kept b o (KX b o e)
      obtain ⟨as, hrd⟩ := Dw.reads (R := R) (cl := cl) hok' KX' d0 v u q r'
      exact ⟨u, as, rfl, hrd, OldK.of_keep kept, os, bare⟩
/-! ### the row -/
theorem layable_weight {ds : List WData} (h : WData.layableAll ds = true) : ∀ d ∈ ds, d.weight ≤ 1048576 := fun d hd =>
  (PySem.W.layableW_iff.mp (List.all_eq_true.mp h d hd)).2.2
theorem encAll_len : ∀ (cs : List Codec) (a : Codec.denoteAll cs), (Codec.encAll cs a).length = cs.length
  | [], _ => rfl
  | c :: cs, a => by
    show (Codec.encAll cs a.2).length + 1 = cs.length + 1
    rw [encAll_len cs a.2]
/-- the goal that k_headS leaves (case hc), from the promise of the row's def: whatever the arguments that the codecs let and the row asks for, the def gives what stands for enc (f ..) -/
theorem walk_spec {r : OpenSpec} {k : Nat} {q : Program} {loose : List Str} {XP : (Str → Option Value) → Heap → Prop} {YP : World → Heap → Prop} {d : DefRec} {K : Params → PySem.W.Frag} {CX : World → CXT} {ps : List Str} {sp : World → Sp}
    (hwell : r.wellSaid = true) (hdf : d.params.defaults = []) (hlen : r.args.length = ps.length) (hr : Room k callerA)
    (hY : ∀ (w : World) (h : Heap), YP w h → (K w.params).In h)
    (F : ∀ (w : World) (mg : Str → Option Value) (fa : Addr) (h : Heap), YP w h → (K w.params).In h → h.Ns mainGlobals mg → mg d.name = some (.ref fa) →
      ∃ fd : FuncData, (∀ (s : Shared) (us : List Value), us.length = ps.length → BindsTo s fd ⟨us, []⟩ (ps.zip us)) ∧
        ∀ base : Heap, (K w.params).In base → base.Ns mainGlobals mg → FnOk r.prog w (K w.params) mg base (CX w) k fa fd ps (sp w))
    (hsp : ∀ (w : World) (H : Hp) (xs : List V) (a : Codec.denoteAll r.args), OnlyF H → Codec.withinAll r.args a = true → Codec.app r.args r.asked a = true → DwAll (K w.params) H xs (Codec.encAll r.args a) →
      sp w xs H (fun v H' => Dw (K w.params) H' v (r.ret.enc (Codec.app r.args r.f a))) fun _ _ _ => False)
    (hCX : ∀ (w : World) (H : Hp) (s : Shared) (e : Value) (s' : Shared), CX w [] H s (fun _ _ _ => False) e s' → False) :
    PySem.W.WalkOS q loose XP YP r d [] (fun f vs => PySem.call f vs) := by
  intro w s_0 s₁ mg mb G Y fa o pm cd doc dV kV ho hd hcd hD hmg hg args vals as hpre hlay hrd hwl hlo
  obtain ⟨a, e1, e2⟩ := PySem.W.os_pre_some hpre
  obtain ⟨e3, hwi⟩ := Codec.encAll_of_decAll r.args args a e1
  subst e3
  have KX := hY w _ Y
  obtain ⟨fd, hb, hF⟩ := F w mg fa _ Y KX G.T.g hmg
  refine PySem.W.enter_call (codeAny_mono (spec_call (R := []) (cl := classAt s_0.heap) (d0 := r.ret.enc (Codec.app r.args r.f a)) KX G.T.g G.T.b G.T.builtins G.T.nolimit hg hwl (pl_encAll _ _) (layable_weight hlay) hr hF hb (by rw [encAll_len]; exact hlen)
    (fun H xs hO hS => hsp w H xs a hO hwi e2 hS) fun H e s' => hCX w H s₁ e s') fun r' s' hq => ?_)
  obtain ⟨u, as', rfl, h1, h2, h3, h4⟩ := hq
  exact ⟨.inl ⟨u, _, as', rfl, fun _ => rfl, h1, (OpenSpec.post_iff hwell hwi _ _).mpr rfl, fun z => Bool.noConfusion (show false = true from z)⟩, h2, h3, h4⟩
/-- the same where the promise hangs on the written part alone -/
theorem walk_specK {r : OpenSpec} {k : Nat} {q : Program} {loose : List Str} {XP : (Str → Option Value) → Heap → Prop} {YP : World → Heap → Prop} {d : DefRec} {K : Params → PySem.W.Frag} {CX : CXT} {ps : List Str} {sp : PySem.W.Frag → Sp}
    (hwell : r.wellSaid = true) (hdf : d.params.defaults = []) (hlen : r.args.length = ps.length) (hr : Room k callerA)
    (hY : ∀ (w : World) (h : Heap), YP w h → (K w.params).In h)
    (F : ∀ (w : World) (mg : Str → Option Value) (fa : Addr) (h : Heap), YP w h → (K w.params).In h → h.Ns mainGlobals mg → mg d.name = some (.ref fa) →
      ∃ fd : FuncData, (∀ (s : Shared) (us : List Value), us.length = ps.length → BindsTo s fd ⟨us, []⟩ (ps.zip us)) ∧
        ∀ base : Heap, (K w.params).In base → base.Ns mainGlobals mg → FnOk r.prog w (K w.params) mg base CX k fa fd ps (sp (K w.params)))
    (hsp : ∀ (K : PySem.W.Frag) (H : Hp) (xs : List V) (a : Codec.denoteAll r.args), OnlyF H → Codec.withinAll r.args a = true → Codec.app r.args r.asked a = true → DwAll K H xs (Codec.encAll r.args a) →
      sp K xs H (fun v H' => Dw K H' v (r.ret.enc (Codec.app r.args r.f a))) fun _ _ _ => False)
    (hCX : ∀ (H : Hp) (s : Shared) (e : Value) (s' : Shared), CX [] H s (fun _ _ _ => False) e s' → False) :
    PySem.W.WalkOS q loose XP YP r d [] (fun f vs => PySem.call f vs) :=
  walk_spec (K := K) (CX := fun _ => CX) (sp := fun w => sp (K w.params)) hwell hdf hlen hr hY F (fun w H xs a h1 h2 h3 h4 => hsp (K w.params) H xs a h1 h2 h3 h4) fun _ H s e s' => hCX H s e s'
end L2
end
section
set_option Elab.async false
set_option maxRecDepth 100000
/-! SHORT WORDS over the layer: a def of the text, its body, what a loop and a test want. -/
namespace L2
open PySem PySem.Spec PyProof.Rows

/-! ### the text by places -/
/-- the j-th statement of a class's body -/
def inClass (s : Stmt) (j : Nat) : Stmt := match s with
  | .ClassDef _ _ _ body _ _ _ _ _ _ _ => body.getD j (.Pass ⟨0, 0, 0, 0⟩)
  | _ => .Pass ⟨0, 0, 0, 0⟩
def defArgs (s : Stmt) : Arguments := match s with
  | .FunctionDef _ a _ _ _ _ _ _ _ _ => a
  | _ => { posonlyargs := [], args := [], vararg := none, kwonlyargs := [], kw_defaults := [], kwarg := none, defaults := [] }
def defBody (s : Stmt) : List Stmt := match s with
  | .FunctionDef _ _ b _ _ _ _ _ _ _ => b
  | _ => []
def defScope (s : Stmt) : Scope := match s with
  | .FunctionDef _ _ _ _ _ _ sc _ _ _ => sc
  | _ => { kind := .function, names := [], isGenerator := false, isCoroutine := false }

/-! ### no exception leaves a def -/
abbrev CX0 : CXT := fun _ _ _ _ _ _ => False
abbrev E0 : XK := fun _ _ _ => False
theorem pass0 {X : Cx} : Passes CX0 X E0 := fun _ _ _ _ _ _ _ h => h.elim

/-! ### a def (or method) of the text as it stands behind the top -/
structure Fun (K : PySem.W.Frag) (x qual : Str) (st : Stmt) (f : Addr) (fd : FuncData) : Prop where
  ex : ∃ (oc : Value) (od : Option Addr) (kV doc pm : Value) (an : Option Addr) (cdv ct : Value) (osl : Array (Option Value)),
    fd = PySem.W.fnOf x qual (defArgs st) (defBody st) (defScope st) .none kV doc pm an cdv ct ∧ K.lookup f = some ⟨oc, od, .func fd, osl⟩ ∧ PySem.W.codeIn K cdv qual = true
  kp : PySem.W.keepIn K (.ref f) = true
section
variable {P : Program} {w : World} {K : PySem.W.Frag} {mg : Str → Option Value} {base : Heap}
/-- THE RULE for a def: its body as a term of rules, and the reading of that term -/
theorem Fun.ok {x qual : Str} {st : Stmt} {f : Addr} {fd : FuncData} {N ps : List Str} {k : Nat} {sp : Sp} (F : Fun K x qual st f fd) (S : FnScope N ps (defScope st)) (len : ∀ vs H Q E, sp vs H Q E → vs.length = ps.length)
    (hbody : ∀ (cdv : Value) (A : Around) (outer : List Env) (s : Shared) (H : Hp) (vs : List V) (Q : VK) (E : XK), Room k (A.deeper (envOfC qual (defScope st) s.heap.objs.size f cdv)) → sp vs H Q E →
      ∃ t, PSs (cxOf CX0 P w K mg base N qual (defScope st) f cdv A outer s H E).nox (defBody st) t ∧ t { nx := fun _ H' => Q .non H', rt := Q } (start N vs) H) : FnOk P w K mg base CX0 (k + 1) f fd ps sp := by
  obtain ⟨oc, od, kV, doc, pm, an, cdv, ct, osl, rfl, lk, hcd⟩ := F.ex
  refine fn_of lk hcd S len fun A outer s H vs Q E hr hsp => ?_
  obtain ⟨t, h, q⟩ := hbody cdv A outer s H vs Q E hr hsp
  exact ⟨t, h.nox, q⟩
/-- how its arguments bind (no defaults): h is «fun _ _ _ _ _ _ us hl => match us, hl with | [_, _], _ => rfl», one _ a parameter -/
theorem Fun.binds {x qual : Str} {st : Stmt} {f : Addr} {fd : FuncData} {ps : List Str} (F : Fun K x qual st f fd)
    (h : ∀ (kV doc pm : Value) (an : Option Addr) (cdv ct : Value) (us : List Value), us.length = ps.length → bindArgs (PySem.W.fnOf x qual (defArgs st) (defBody st) (defScope st) .none kV doc pm an cdv ct) ⟨us, []⟩ = pure (ps.zip us)) : Binds K fd ps [] := by
  obtain ⟨oc, od, kV, doc, pm, an, cdv, ct, osl, rfl, lk, hcd⟩ := F.ex
  exact .all (h kV doc pm an cdv ct)
theorem fun_mk {x qual : Str} {st : Stmt} {f : Addr} {oc : Value} {od an : Option Addr} {osl : Array (Option Value)} {kV doc pm cdv ct : Value} (l : K.lookup f = some ⟨oc, od, .func (PySem.W.fnOf x qual (defArgs st) (defBody st) (defScope st) .none kV doc pm an cdv ct), osl⟩)
    (c : PySem.W.codeIn K cdv qual = true) (k : PySem.W.keepIn K (.ref f) = true) : Fun K x qual st f (PySem.W.fnOf x qual (defArgs st) (defBody st) (defScope st) .none kV doc pm an cdv ct) := ⟨⟨oc, od, kV, doc, pm, an, cdv, ct, osl, rfl, l, c⟩, k⟩
end
/-! ### expressions in short: the name that stands in the i-th slot -/
section
variable {X : Cx}
theorem pv (i : Nat) {x : Str} {pos : Pos} (hN : X.N[i]? = some x := by rfl) (hv : Vis X.env.scope x := by first | exact Or.inl rfl | exact Or.inr (Or.inl rfl) | exact Or.inr (Or.inr rfl)) (hd : (x == ("__debug__" : Str)) = false := by decide)
    (hcd : (x == ("__classdict__" : Str)) = false := by decide) : PE X (.Name x pos) (tVar i) := pe_var hN hv hd hcd
end

/-! ### tests -/
theorem iteF {A B : Prop} (h : B) : if false = true then A else B := by
  rw [if_neg Bool.false_ne_true]
  exact h
theorem iteT {A B : Prop} (h : A) : if true = true then A else B := by
  rw [if_pos rfl]
  exact h
/-! ### heaps -/
/-- all that was tracked is as it was -/
def Same (H H' : Hp) : Prop := ∀ b o, H b = some o → H' b = some o
theorem Same.refl (H : Hp) : Same H H := fun _ _ h => h
theorem Same.trans {H H1 H2 : Hp} (a : Same H H1) (b : Same H1 H2) : Same H H2 := fun c o h => b c o (a c o h)
theorem Same.seq {K : PySem.W.Frag} {H H' : Hp} {a : Addr} {xs : List V} (e : Same H H') (h : SqL K H a xs) : SqL K H' a xs := by
  rcases h with (h | ⟨o, h⟩) | h
  · exact .inl (.inl (e _ _ h))
  · exact .inl (.inr ⟨o, e _ _ h⟩)
  · exact .inr h

/-! ### a dict's pairs: keys that differ -/
section
variable {κ : Type} [DecidableEq κ]
end
/-! ### lists -/
/-- a new instance and its __init__ leave all that was tracked as it was -/
theorem Same.made {H H1 : Hp} {x dx C : Addr} (nx : H x = Option.none) (nd : H dx = Option.none) (k : ∀ b o, (upd (upd H dx (.own x)) x (.ins C dx [])) b = some o → b ≠ x → H1 b = some o) : Same H H1 := fun b o e =>
  k b o (by rw [upd_ne (ne_of_none e nx), upd_ne (ne_of_none e nd)]; exact e) (ne_of_none e nx)
end L2

end


section
set_option Elab.async false
/-! An exception of an own class with a dict of its own: how it lies in the heap while it leaves frames. -/
namespace XB
open PySem

/-- the frames of callers -/
abbrev fra (l : List Env) : List Addr := l.filterMap (·.frame)

/-- raised: no entry yet -/
structure Fresh (h : Heap) (e C dx : Addr) : Prop where
  ex : ∃ vs sl, h.get? e = some { cls := .ref C, dict := some dx, data := .fields vs, slots := sl } ∧ vs[1]? = some .none
/-- in flight, between two frames: its newest entry T is of no frame's flight -/
structure Flies (h : Heap) (e C dx T : Addr) : Prop where
  ex : ∃ vs sl, h.get? e = some { cls := .ref C, dict := some dx, data := .fields vs, slots := sl } ∧ vs[1]? = some (.ref T)
  tb : ∃ oT ts, h.get? T = some oT ∧ oT.data = .fields ts ∧ ts[3]? = some .none
  ne : T ≠ e

section
variable {M : Model} {A : Around} {E : Value → Shared → Prop} {s : Shared} {Q : Unit → Shared → Prop} {e C dx T : Addr}
/-- its flight ends -/
theorem land {vs ts : Array Value} {sl : Array (Option Value)} {oT : Obj} (he : s.heap.get? e = some { cls := .ref C, dict := some dx, data := .fields vs, slots := sl }) (h1 : vs[1]? = some (.ref T))
    (hT : s.heap.get? T = some oT) (hd : oT.data = .fields ts) (sz : 3 < ts.size) (ne : T ≠ e)
    (h : ∀ h', Flies h' e C dx T → (∀ b o, b ≠ T → s.heap.get? b = some o → h'.get? b = some o) → Q () { s with heap := h' }) : wpAny M A (setFlight (.ref e) none) Q E s := by
  unfold setFlight
  refine wpAny_bind (wpAny_field he rfl h1 ?_)
  rw [if_pos (by simp)]
  refine wpAny_setField hT hd sz (h _ ⟨⟨vs, sl, ?_, h1⟩, ⟨_, _, Heap.get?_update_self _ hT (Obj.isFreed_of_fields (Obj.data_mapFields hd _)), Obj.data_mapFields hd _, ?_⟩, ne⟩ fun b o hb hh => ?_)
  · rw [Heap.get?_update_other _ _ ne]
    exact he
  · show (ts.setIfInBounds 3 Value.none)[3]? = some Value.none
    simp [sz]
  · rw [Heap.get?_update_other _ _ (Ne.symm hb)]
    exact hh
/-- .. once more -/
theorem land_again (X : Flies s.heap e C dx T)
    (h : ∀ h', Flies h' e C dx T → (∀ b o, b ≠ T → s.heap.get? b = some o → h'.get? b = some o) → Q () { s with heap := h' }) : wpAny M A (setFlight (.ref e) none) Q E s := by
  obtain ⟨⟨vs, sl, he, h1⟩, ⟨oT, ts, hT, hd, h3⟩, ne⟩ := X
  exact land he h1 hT hd (Array.getElem?_eq_some_iff.mp h3).1 ne h
end

section
variable {M : Model} {A : Around} {E : Value → Shared → Prop} {s : Shared} {Q : Unit → Shared → Prop} {e C dx L : Addr} {env : Env} {outer : List Env} {base : Heap}

/-- what an entry more leaves as it was: all but the frames, the exception, the entry ahead -/
structure Noted (l : List Env) (h h' : Heap) (e : Addr) (T0 : Option Addr) : Prop where
  keep : ∀ b o, b ∉ fra l → b ≠ e → T0 ≠ some b → h.get? b = some o → h'.get? b = some o
  slot : ∀ b o, b ∈ fra l → h.get? b = some o → ∃ sl, h'.get? b = some { o with slots := sl }

/-- a new entry for the frame of env; then its flight ends -/
theorem entry_new {vs : Array Value} {sl : Array (Option Value)} {head : Value} {nx : Bool} (hfr : A.frames = some (env :: outer)) (hl : s.heap.FunFrames base (env :: outer)) (hf : env.frame = some L)
    (he : s.heap.get? e = some { cls := .ref C, dict := some dx, data := .fields vs, slots := sl }) (sz : 1 < vs.size)
    (h : ∀ h' T, Flies h' e C dx T → s.heap.objs.size ≤ T → Noted (env :: outer) s.heap h' e none → Q () { s with heap := h' }) :
    wpAny M A (frameOf env >>= fun a => entryPlaceOf L nx >>= fun pl => EntryCells.newEntry head a .none (rawInt L) .none pl >>= fun b => setField (.ref e) 1 b)
      (fun _ s' => wpAny M A (setFlight (.ref e) none) Q E s') E s := by
  have ene : e ∉ fra (env :: outer) := fun hm => by
    obtain ⟨_, o, ho, hnf⟩ := hl.mem hm
    rw [he] at ho
    cases ho
    exact hnf vs rfl
  refine wpAny_bind (wpAny_frameOf_fun hfr hl hf fun h1 hs1 => ?_)
  refine wpAny_bind (wpAny_entryPlaceOf fun pl hpl => ?_)
  unfold EntryCells.newEntry newFields
  refine wpAny_bind (wpAny_newObj_type ?_ (hpl.sizeOk5 _ _ _ _ _))
  generalize hts : ([head, .ref L, .none, rawInt L, .none] ++ (if pl.isEmpty then List.replicate 6 Value.none else pl)).toArray = ts
  have tsz : 3 < ts.size := by
    rw [← hts, List.size_toArray, List.length_append]
    simp only [List.length_cons, List.length_nil]
    omega
  have he1 : h1.get? e = some { cls := .ref C, dict := some dx, data := .fields vs, slots := sl } := (hs1.2.1 e ene).trans he
  have he2 := Heap.get?_push_of_some (h := h1) { cls := .type "traceback", dict := none, data := .fields ts } he1
  have hTe : h1.objs.size ≠ e := Nat.ne_of_gt (Heap.lt_size he1)
  refine wpAny_setField he2 rfl sz ?_
  refine land (C := C) (dx := dx) (T := h1.objs.size) (vs := vs.setIfInBounds 1 (.ref h1.objs.size)) (ts := ts) (sl := sl) ?_ ?_ ((Heap.get?_update_other _ _ (Ne.symm hTe)).trans (Heap.get?_push_size h1 rfl)) rfl tsz hTe fun h' F k => ?_
  · exact (Heap.get?_update_self _ he2 rfl).trans rfl
  · simp [sz]
  · have up : ∀ b o, b ≠ e → h1.get? b = some o → h'.get? b = some o := fun b o hb hh => by
      have hbT : b ≠ h1.objs.size := Nat.ne_of_lt (Heap.lt_size hh)
      refine k b o hbT ?_
      show ((h1.push _).update e _).get? b = some o
      rw [Heap.get?_update_other _ _ (Ne.symm hb)]
      exact Heap.get?_push_of_some _ hh
    refine h h' _ F (by rw [hs1.1]; exact Nat.le_refl _) ⟨fun b o hb1 hb2 _ hh => up b o hb2 ((hs1.2.1 b hb1).trans hh), fun b o hb1 hh => ?_⟩
    obtain ⟨sl', q⟩ := hs1.2.2 b o hh
    exact ⟨sl', up b _ (fun z => ene (z ▸ hb1)) q⟩

/-- the exception leaves the frame in which it was raised -/
theorem note_first (hfr : A.frames = some (env :: outer)) (hl : s.heap.FunFrames base (env :: outer)) (hf : env.frame = some L) (X : Fresh s.heap e C dx)
    (h : ∀ h' T, Flies h' e C dx T → s.heap.objs.size ≤ T → Noted (env :: outer) s.heap h' e none → Q () { s with heap := h' }) :
    wpAny M A (noteFrame (.ref e) env) (fun _ s' => wpAny M A (setFlight (.ref e) none) Q E s') E s := by
  obtain ⟨vs, sl, he, h1⟩ := X.ex
  unfold noteFrame
  simp only [hf]
  refine wpAny_bind (wpAny_field he rfl h1 ?_)
  rw [if_neg (by decide)]
  exact entry_new hfr hl hf he (Array.getElem?_eq_some_iff.mp h1).1 h
/-- .. a caller's frame -/
theorem note_next {T0 : Addr} (hfr : A.frames = some (env :: outer)) (hl : s.heap.FunFrames base (env :: outer)) (hf : env.frame = some L) (X : Flies s.heap e C dx T0)
    (h : ∀ h' T, Flies h' e C dx T → s.heap.objs.size ≤ T → Noted (env :: outer) s.heap h' e (some T0) → Q () { s with heap := h' }) :
    wpAny M A (noteFrame (.ref e) env) (fun _ s' => wpAny M A (setFlight (.ref e) none) Q E s') E s := by
  obtain ⟨⟨vs, sl, he, h1⟩, ⟨oT, ts, hT, hd, h3⟩, ne⟩ := X
  have n3 : ∀ b o, s.heap.get? b = some o → (∀ ws, o.data ≠ .fields ws) → b ≠ T0 := fun b o hb hn q => by
    rw [q, hT] at hb
    cases hb
    exact hn ts hd
  have oth : ∀ b, b ≠ T0 → (s.heap.update T0 (Obj.mapFields (·.setIfInBounds 3 Value.none))).get? b = s.heap.get? b := fun b hb => Heap.get?_update_other _ _ (Ne.symm hb)
  unfold noteFrame
  simp only [hf]
  refine wpAny_bind (wpAny_field he rfl h1 ?_)
  rw [if_pos (by simp)]
  refine wpAny_bind (wpAny_field hT hd h3 ?_)
  rw [if_neg (by simp [rawInt])]
  refine wpAny_bind (wpAny_setField hT hd (Array.getElem?_eq_some_iff.mp h3).1 ?_)
  refine entry_new (base := base) hfr (hl.of_keeps fun b o hb hn => ⟨o, (oth b (n3 b o hb hn)).trans hb, rfl⟩) hf ((oth e (Ne.symm ne)).trans he) (Array.getElem?_eq_some_iff.mp h1).1 fun h' T F nT N => ?_
  refine h h' T F (Nat.le_trans (Nat.le_of_eq (Heap.size_after_update ..).symm) nT) ⟨fun b o h1 h2 h3 hb => N.keep b o h1 h2 (by simp) ((oth b fun q => h3 (by rw [q])).trans hb), fun b o h1 hb => ?_⟩
  have nb : b ≠ T0 := by
    obtain ⟨_, o', ho, hn⟩ := hl.mem h1
    exact n3 b o' ho hn
  exact N.slot b o h1 ((oth b nb).trans hb)
theorem leave_first (hfr : A.frames = some (env :: outer)) (hl : s.heap.FunFrames base (env :: outer)) (hf : env.frame = some L) (X : Fresh s.heap e C dx)
    (h : ∀ h' T, Flies h' e C dx T → s.heap.objs.size ≤ T → Noted (env :: outer) s.heap h' e none → Q () { s with heap := h' }) : wpAny M A (leaving env (.ref e)) Q E s := by
  unfold leaving
  exact wpAny_bind (note_first hfr hl hf X h)
theorem leave_next {T0 : Addr} (hfr : A.frames = some (env :: outer)) (hl : s.heap.FunFrames base (env :: outer)) (hf : env.frame = some L) (X : Flies s.heap e C dx T0)
    (h : ∀ h' T, Flies h' e C dx T → s.heap.objs.size ≤ T → Noted (env :: outer) s.heap h' e (some T0) → Q () { s with heap := h' }) : wpAny M A (leaving env (.ref e)) Q E s := by
  unfold leaving
  exact wpAny_bind (note_next hfr hl hf X h)
end
end XB

end

section
set_option Elab.async false
set_option maxRecDepth 100000
/-! Exceptions of an own class under ValueError whose __init__ stores attributes: raised, read, caught. -/
namespace XB
open PySem

abbrev bmV : List Value := [.type "ValueError", .type "Exception", .type "BaseException", .type "object"]

/-- the class at C stands in the heap; its __init__ is fI, the names of ns are no attributes of it -/
structure Cls (h : Heap) (C fI : Addr) (ns : List Str) : Prop where
  ex : ∃ (nm q : Str) (N : Addr) (bs : List Value) (sn : List Str) (sub : List Value) (ab : Bool) (col : Option Bool) (dd : Option Addr) (k0 k1 k2 k3 k5 : Option Value) (mN : Str → Option Value),
    h.get? C = some (excClassObj nm q C N bs bmV true sn sub ab col dd k0 k1 k2 k3 k5 "ValueError.__new__") ∧ h.Ns N mN ∧ mN "__init__" = some (.ref fI) ∧ mN "__setattr__" = none ∧ mN "__getattribute__" = none ∧ mN "__getattr__" = none ∧ ∀ x ∈ ns, mN x = none
section
variable {M : Model} {A : Around} {E : Value → Shared → Prop} {s : Shared} {env : Env} {C fI : Addr} {ns : List Str}

/-- raise of an exception that has been made -/
theorem raise_made {x : Sem Value} {Q : Flow → Shared → Prop} (hh : A.handled = none)
    (h : wpAny M A x (fun v s1 => ∃ e dx vs sl, v = .ref e ∧ Cls s1.heap C fI ns ∧ s1.heap.get? e = some { cls := .ref C, dict := some dx, data := .fields vs, slots := sl } ∧ vs[1]? = some .none ∧ E (.ref e) s1) E s) :
    wpAny M A (raiseStmt env (some x) none) Q E s := by
  unfold raiseStmt
  refine wpAny_bind (wpAny_mono h (fun v s1 h1 => ?_) fun _ _ z => z)
  obtain ⟨e, dx, vs, sl, rfl, X, he, hv, hE⟩ := h1
  obtain ⟨nm, q, N, bs, sn, sub, ab, col, dd, k0, k1, k2, k3, k5, mN, hC, _⟩ := X.ex
  have hcB : (Value.ref C :: bmV).contains (.type "BaseException") = true := by
    rw [List.contains_cons, show bmV.contains (.type "BaseException") = true from by decide +kernel, Bool.or_true]
  obtain ⟨hp, g, d, tk, os⟩ := s1
  repeat (first | with_reducible refine wpAny_loadPart_at he ?_ | with_reducible refine wpAny_loadPart_at hC ?_ | (with_reducible refine wpAny_isSubtype_exc hC ?_; rw [hcB]) | with_reducible refine wpAny_field he rfl hv ?_ | wp_step)
  exact wpAny_raiseNew_none hh hE
end

section
variable {prog : Program} {w : World} {A : Around} {E : Value → Shared → Prop} {h : Heap} {g : Array GenState} {d : Drawn} {t : Nat} {os : OsState} {C fI e dx : Addr} {ns : List Str} {name : Str} {v : Value} {mA : Str → Option Value} {vs : Array Value} {sl : Array (Option Value)}

end

section
variable {prog : Program} {w : World} {A : Around} {E : Value → Shared → Prop} {h : Heap} {g : Array GenState} {d : Drawn} {t : Nat} {os : OsState} {C fI e dx : Addr} {ns : List Str} {name : Str} {v : Value} {mA : Str → Option Value} {vs : Array Value} {sl : Array (Option Value)}

/-- a goal put aside: no step goes on in it -/
structure Park (p : Prop) : Prop where
  out : p
set_option maxHeartbeats 2000000 in
/-- the first attribute of an exception that has no dict yet -/
theorem set_entry0 {tk : Tok} {Q : Fin → Shared → Prop} (X : Cls h C fI ns) (hna : name ∈ ns) (hB : typeLookup (.type "ValueError") name = pure none)
    (hx : h.get? e = some { cls := .ref C, dict := none, data := .fields vs, slots := sl })
    (hq : ∀ h' tk', h'.get? e = some { cls := .ref C, dict := some h.objs.size, data := .fields vs, slots := sl } → h'.Ns1 h.objs.size (fun y => if y = name then some v else none) →
      (∀ b o, b ≠ e → h.get? b = some o → h'.get? b = some o) → Q (.done (.ret .none)) ⟨h', g, d, tk', os⟩) :
    wpAny (model prog w) A (Builtin.«object.__setattr__» ⟨[.ref e, .str name tk, v], []⟩) Q E ⟨h, g, d, t, os⟩ := by
  obtain ⟨nm, q, N, bs, sn, sub, ab, col, dd, k0, k1, k2, k3, k5, mN, hC, hN, h1, h2, h3, h4, h5⟩ := id X.ex
  have SF := F.store_ValueError
  have h6 := h5 name hna
  have hpass := SF.passes (.ref e)
  unfold Builtin.«object.__setattr__»
  have hx1 : (h.push { cls := .type "dict", data := .dict #[] }).get? e = some { cls := .ref C, dict := none, data := .fields vs, slots := sl } := Heap.get?_push_of_some _ hx
  have hes : e ≠ h.objs.size := Nat.ne_of_lt (Heap.lt_size hx)
  have hnd : ((h.push { cls := .type "dict", data := .dict #[] }).update e fun o => { cls := o.cls, dict := some h.objs.size, data := o.data, slots := o.slots }).Ns h.objs.size (fun _ => none) :=
    ⟨_, #[], _, (Heap.get?_update_ne _ _ _ _ hes.symm).trans (Heap.get?_push_at rfl rfl), rfl, fun z hz => absurd hz (by simp), fun _ => rfl⟩
  repeat (first | rw [refuse_eq] | (rw [refuseLoop_ref, hpass]) | with_reducible refine wpAny_loadPart_at hx ?_ | with_reducible refine wpAny_mroOf_exc hC ?_ | (with_reducible refine wpAny_typeLookup_exc hC hN SF.mro hB ?_; rw [h6]) | with_reducible refine wpAny_nsSet1 (Heap.Ns1.of_empty hnd) (fun h' hn' hs => Park.out ?_) | wp_step)
  constructor
  obtain ⟨oD, esD, epD, hoD, hdD, hcD⟩ := hn'.count (Within.cons name v Within.nil)
  refine wpAny_bind (wpAny_lookBehind hoD (by rw [hdD]; exact pastItsLine_dict (Nat.le_trans hcD (by rw [List.length_cons, List.length_nil, sizeLine_eq]; omega))) ?_)
  wp_walk
  refine hq h' _ ((hs.2 e hes).trans (Heap.get?_update_self _ hx1 rfl)) hn' fun b o hb hh => ?_
  exact (hs.2 b (Nat.ne_of_lt (Heap.lt_size hh))).trans ((Heap.get?_update_ne _ _ _ _ hb).trans (Heap.get?_push_of_some _ hh))
theorem set_call0 {tk : Tok} {sa owner : String} {R : Result → Shared → Prop} (SF : StoreFacts "ValueError" bmV sa owner) (X : Cls h C fI ns) (hna : name ∈ ns) (hB : typeLookup (.type "ValueError") name = pure none)
    (hx : h.get? e = some { cls := .ref C, dict := none, data := .fields vs, slots := sl })
    (hq : ∀ h' tk', h'.get? e = some { cls := .ref C, dict := some h.objs.size, data := .fields vs, slots := sl } → h'.Ns1 h.objs.size (fun y => if y = name then some v else none) →
      (∀ b o, b ≠ e → h.get? b = some o → h'.get? b = some o) → R (.ok (.ret .none)) ⟨h', g, d, tk', os⟩) :
    codeAny (model prog w) A (.call (.builtin sa) ⟨[.ref e, .str name tk, v], []⟩) R ⟨h, g, d, t, os⟩ := by
  obtain ⟨nm, q, N, bs, sn, sub, ab, col, dd, k0, k1, k2, k3, k5, mN, hC, hN, _⟩ := id X.ex
  exact codeAny_call_builtin SF.slot.plain SF.entry (wpAny_check_sa SF hC hx rfl (set_entry0 X hna hB hx hq))
theorem set_attr0 {Q : Unit → Shared → Prop} (X : Cls h C fI ns) (hna : name ∈ ns) (hB : typeLookup (.type "ValueError") name = pure none)
    (hx : h.get? e = some { cls := .ref C, dict := none, data := .fields vs, slots := sl })
    (hq : ∀ h' tk', h'.get? e = some { cls := .ref C, dict := some h.objs.size, data := .fields vs, slots := sl } → h'.Ns1 h.objs.size (fun y => if y = name then some v else none) →
      (∀ b o, b ≠ e → h.get? b = some o → h'.get? b = some o) → Q () ⟨h', g, d, tk', os⟩) :
    wpAny (model prog w) A (setAttr (.ref e) name v) Q E ⟨h, g, d, t, os⟩ := by
  obtain ⟨nm, q, N, bs, sn, sub, ab, col, dd, k0, k1, k2, k3, k5, mN, hC, hN, h1, h2, h3, h4, h5⟩ := id X.ex
  have SF := F.store_ValueError
  have f3 := SF.slot.bind (.ref e)
  unfold setAttr callSpecial? specialOf
  repeat (any_goals (first | assumption | with_reducible refine wpAny_loadPart_at hx ?_ | (with_reducible refine wpAny_typeLookup_exc hC hN SF.mro SF.slot.lookup ?_; rw [h2]) | wp_step))
  refine set_call0 SF X hna hB hx fun h' tk' q1 q2 q3 => ?_
  have q4 := hq h' tk' q1 q2 q3
  repeat (any_goals (first | assumption | wp_step))
end

section
variable {prog : Program} {w : World} {A : Around} {E : Value → Shared → Prop} {s : Shared} {env : Env} {C fI e : Addr} {ns : List Str}
/-- except C: -/
theorem caught_plain {t : Expr} {b0 : Stmt} {suite : List Stmt} {pos : Pos} {rest : List ExceptHandler} {Q : Flow → Shared → Prop}
    (h : wpAny (model prog w) (A.mark (some (.ref e))) (eval t env) (fun c s1 => c = .ref C ∧ Cls s1.heap C fI ns ∧ (∃ o, s1.heap.get? e = some o ∧ o.cls = .ref C) ∧
      wpAny (model prog w) (A.mark (some (.ref e))) (setFlight (.ref e) none) (fun _ s2 => wpAny (model prog w) (A.mark (some (.ref e))) (execs (b0 :: suite) env) Q (fun _ _ => False) s2) (fun _ _ => False) s1) (fun _ _ => False) s) :
    wpAny (model prog w) A (handleBy (.ref e) env (.ExceptHandler (some t) none (b0 :: suite) pos :: rest)) Q E s := by
  refine wpAny_handleBy_cons (codeAny_handlers_test (wpAny_mono h (fun c s1 h1 => ?_) fun _ _ z => z.elim)) (by intro z; cases z)
  obtain ⟨rfl, X, ⟨o, he, hc⟩, hk⟩ := h1
  obtain ⟨nm, q, N, bs, sn, sub, ab, col, dd, k0, k1, k2, k3, k5, mN, hC, _⟩ := X.ex
  obtain ⟨hh, g, d, tk, os⟩ := s1
  refine wpAny_excMatches_sub_self hC he hc (by decide +kernel) ?_
  show codeAny _ _ _ _ _
  refine codeAny_handlers_suite ?_
  exact wpAny_mono hk (fun _ s2 h2 => wpAny_mono h2 (fun f s4 h4 => h4) fun _ _ z => z.elim) fun _ _ z => z.elim
end
end XB

end

section
set_option Elab.async false
set_option linter.all false
set_option maxRecDepth 100000
set_option maxHeartbeats 1000000
/-! EXCEPTIONS over the hand layer: an own class under ValueError whose __init__ stores attributes; raised in a def, through callers, caught in a try. -/
namespace L2
open PySem PySem.Spec PyProof.Rows

/-! ### how an exception lies behind a call -/
def CXE (P : Program) (w : World) : CXT := fun outer H s E e s' => ∃ (ea C dx T : Addr) (H' : Hp), e = .ref ea ∧ s'.os = s.os ∧ AllBare s'.gens ∧ Un (frs outer) [] H H' s.heap s'.heap ∧ HOk P w H' s'.heap ∧
  XB.Flies s'.heap ea C dx T ∧ s.heap.get? ea = none ∧ s.heap.get? T = none ∧ H' ea = none ∧ H' T = none ∧ (∃ fs, H' dx = some (.xd fs)) ∧ E (.ref C) (some dx) H'

section
variable {P : Program} {w : World} {H H' : Hp} {h h1 h2 : Heap} {env : Env} {outer l : List Env} {ea L : Addr} {T0 : Option Addr}
theorem frs_cons (hf : env.frame = some L) : frs (env :: outer) = L :: frs outer := by
  unfold frs
  rw [List.filterMap_cons, hf]
/-- an entry more: the frame's own is younger -/
theorem Un.noted (u : Un (frs outer) [] H H' h h1) (N : XB.Noted (env :: outer) h1 h2 ea T0) (hf : env.frame = some L) (hL : h.get? L = none) (he : h.get? ea = none) (hT : ∀ T, T0 = some T → h.get? T = none) :
    Un (frs outer) [] H H' h h2 := by
  have nL : ∀ {b o}, h.get? b = some o → b ≠ L := fun e z => by
    rw [z, hL] at e
    cases e
  have nE : ∀ {b o}, h.get? b = some o → b ≠ ea := fun e z => by
    rw [z, he] at e
    cases e
  have nT : ∀ {b o}, h.get? b = some o → T0 ≠ some b := fun e z => by
    rw [hT _ z] at e
    cases e
  have mem : ∀ {b}, b ∈ XB.fra (env :: outer) → b = L ∨ b ∈ frs outer := fun {b} z => by
    rw [show XB.fra (env :: outer) = L :: frs outer from frs_cons hf] at z
    exact List.mem_cons.mp z
  have mem2 : ∀ {b}, b ∈ frs outer → b ∈ XB.fra (env :: outer) := fun {b} z => by
    rw [show XB.fra (env :: outer) = L :: frs outer from frs_cons hf]
    exact List.mem_cons_of_mem _ z
  refine ⟨fun b o e n hb hx => N.keep b o (fun z => (mem z).elim (nL e) hb) (nE e) (nT e) (u.keep b o e n hb hx), fun b o e n hb hx => ?_, u.free, fun b o e hx => ?_, u.tups, u.frzs, u.tbls⟩
  · obtain ⟨sl, e1⟩ := u.slot b o e n hb hx
    obtain ⟨sl2, e2⟩ := N.slot b _ (mem2 hb) e1
    exact ⟨sl2, e2⟩
  · obtain ⟨o1, e1⟩ := u.there b o e hx
    by_cases m : b ∈ XB.fra (env :: outer)
    · obtain ⟨sl, e2⟩ := N.slot b o1 m e1
      exact ⟨_, e2⟩
    · exact ⟨o1, N.keep b o1 m (nE e) (nT e) e1⟩
/-- .. all frames are the callers' -/
theorem Un.noted2 (u : Un (frs l) [] H H' h h1) (N : XB.Noted l h1 h2 ea T0) (he : h.get? ea = none) (hT : ∀ T, T0 = some T → h.get? T = none) : Un (frs l) [] H H' h h2 := by
  have nE : ∀ {b o}, h.get? b = some o → b ≠ ea := fun e z => by
    rw [z, he] at e
    cases e
  have nT : ∀ {b o}, h.get? b = some o → T0 ≠ some b := fun e z => by
    rw [hT _ z] at e
    cases e
  refine ⟨fun b o e n hb hx => N.keep b o hb (nE e) (nT e) (u.keep b o e n hb hx), fun b o e n hb hx => ?_, u.free, fun b o e hx => ?_, u.tups, u.frzs, u.tbls⟩
  · obtain ⟨sl, e1⟩ := u.slot b o e n hb hx
    obtain ⟨sl2, e2⟩ := N.slot b _ hb e1
    exact ⟨sl2, e2⟩
  · obtain ⟨o1, e1⟩ := u.there b o e hx
    by_cases m : b ∈ XB.fra l
    · obtain ⟨sl, e2⟩ := N.slot b o1 m e1
      exact ⟨_, e2⟩
    · exact ⟨o1, N.keep b o1 m (nE e) (nT e) e1⟩
theorem HOk.noted (ok : HOk P w H' h1) (N : XB.Noted l h1 h2 ea T0) (hf : ∀ b ∈ frs l, H' b = none) (he : H' ea = none) (hT : ∀ T, T0 = some T → H' T = none) : HOk P w H' h2 := fun b o e => by
  have nn : ∀ c u, H' c = some u → c ∉ XB.fra l ∧ c ≠ ea ∧ T0 ≠ some c := fun c u q => by
    refine ⟨fun z => ?_, fun z => ?_, fun z => ?_⟩
    · rw [hf c z] at q
      cases q
    · rw [z, he] at q
      cases q
    · rw [hT c z] at q
      cases q
  refine (ok b o e).stay (fun c u hc q => ?_) (fun _ q => q) fun _ _ q => q
  have k : ∃ u', H' c = some u' := by
    rcases hc with z | z
    · exact ⟨o, by rw [z]; exact e⟩
    · exact ⟨_, z⟩
  obtain ⟨u', k⟩ := k
  obtain ⟨n1, n2, n3⟩ := nn c u' k
  exact N.keep c u n1 n2 n3 q
/-- a record that nobody tracks turned -/
theorem HOk.turned {T : Addr} (ok : HOk P w H' h1) (k : ∀ b o, b ≠ T → h1.get? b = some o → h2.get? b = some o) (hT : H' T = none) : HOk P w H' h2 := fun b o e => by
  have nn : ∀ c u, H' c = some u → c ≠ T := fun c u q z => by
    rw [z, hT] at q
    cases q
  refine (ok b o e).stay (fun c u hc q => k c u ?_ q) (fun _ q => q) fun _ _ q => q
  rcases hc with z | z
  · rw [z]
    exact nn b o e
  · exact nn c _ z
theorem Un.turned {T : Addr} {fs : List Addr} (u : Un fs [] H H' h h1) (k : ∀ b o, b ≠ T → h1.get? b = some o → h2.get? b = some o) (hT : h.get? T = none) : Un fs [] H H' h h2 := by
  have nT : ∀ {b o}, h.get? b = some o → b ≠ T := fun e z => by
    rw [z, hT] at e
    cases e
  refine ⟨fun b o e n hb hx => k b o (nT e) (u.keep b o e n hb hx), fun b o e n hb hx => ?_, u.free, fun b o e hx => ?_, u.tups, u.frzs, u.tbls⟩
  · obtain ⟨sl, e1⟩ := u.slot b o e n hb hx
    exact ⟨sl, k b _ (nT e) e1⟩
  · obtain ⟨o1, e1⟩ := u.there b o e hx
    exact ⟨o1, k b o1 (nT e) e1⟩
/-- a thing that was not there ahead is tracked from now on -/
theorem Un.track {fs : List Addr} {a : Addr} {o : HO} (u : Un fs [] H H' h h1) (ha : h.get? a = none) (hn : H' a = none) : Un fs [] H (upd H' a o) h h1 := by
  have na : ∀ {b o}, h.get? b = some o → b ≠ a := fun e z => by
    rw [z, ha] at e
    cases e
  refine ⟨u.keep, u.slot, fun b ob e n hx => ?_, u.there, fun b xs q => ?_, fun b ob x q => ?_, fun b ps q => ?_⟩
  · rw [upd_ne (na e)]
    exact u.free b ob e n hx
  · have z := u.tups b xs q
    rw [upd_ne (ne_of_none z hn)]
    exact z
  · have z := u.frzs b ob x q
    rw [upd_ne (ne_of_none z hn)]
    exact z
  · obtain ⟨m, z⟩ := u.tbls b ps q
    exact ⟨m, by rw [upd_ne (ne_of_none z hn)]; exact z⟩
theorem HOk.track {a : Addr} {o : HO} (ok : HOk P w H' h1) (hn : H' a = none) (new : ObjOk P w (upd H' a o) h1 a o) : HOk P w (upd H' a o) h1 := fun b u e => by
  by_cases hb : b = a
  · subst hb
    rw [upd_same] at e
    cases e
    exact new
  · rw [upd_ne hb] at e
    exact (ok b u e).stay (fun _ _ _ q => q) (fun c q => by rw [upd_ne (ne_of_none q hn)]; exact q) fun c xs q => by rw [upd_ne (ne_of_none q hn)]; exact q
end

/-! ### the exception as a thing of the abstract heap -/
/-- made, without a dict -/
def Ex0 (e C : Addr) : HO := .ext fun h => ∃ vs sl, h.get? e = some { cls := .ref C, dict := none, data := .fields vs, slots := sl } ∧ vs[1]? = some .none
/-- .. its dict at dx -/
def ExF (e C dx : Addr) : HO := .ext fun h => ∃ vs sl, h.get? e = some { cls := .ref C, dict := some dx, data := .fields vs, slots := sl } ∧ vs[1]? = some .none
def del (H : Hp) (a : Addr) : Hp := fun b => if b = a then none else H b
theorem del_same {H : Hp} {a : Addr} : del H a a = none := by
  unfold del
  rw [if_pos rfl]
theorem del_ne {H : Hp} {a b : Addr} (h : b ≠ a) : del H a b = H b := by
  unfold del
  rw [if_neg h]
section
variable {X : Cx} {pins : List (Addr × Obj)} {σ : St} {H : Hp} {s : Shared} {h' : Heap}
theorem Inv.laid0 {a : Addr} {o : HO} {t' : Nat} (I : Inv X pins σ H s) (k : ∀ b u, s.heap.get? b = some u → h'.get? b = some u) (hp : s.heap.get? a = none) (hn : H a = none) (new : ObjOk X.prog X.w (upd H a o) h' a o) :
    Inv X pins σ (upd H a o) { s with heap := h', toks := t' } := by
  refine I.un ?_ ?_
  · exact Un.track (Un.kept k) hp hn
  · exact HOk.track (I.hok.kept k) hn new
/-- it flies: it is tracked no more -/
theorem HOk.untrack {P : Program} {w : World} {h : Heap} {a : Addr} {φ : Heap → Prop} (ok : HOk P w H h) (ha : H a = some (.ext φ)) : HOk P w (del H a) h := fun b u e => by
  have hb : b ≠ a := fun z => by
    rw [z, del_same] at e
    cases e
  rw [del_ne hb] at e
  refine (ok b u e).stay (fun _ _ _ q => q) (fun c q => ?_) fun c xs q => ?_
  · rw [del_ne (ne_of q ha (by intro z; cases z))]
    exact q
  · rw [del_ne (ne_of q ha (by intro z; cases z))]
    exact q
theorem Inv.untrack {a : Addr} {φ : Heap → Prop} (I : Inv X pins σ H s) (ha : H a = some (.ext φ)) : Inv X pins σ (del H a) s := by
  have ne : ∀ {b u}, H b = some u → u ≠ .ext φ → b ≠ a := fun q d => ne_of q ha d
  obtain ⟨hp, g, d, t, os⟩ := s
  refine I.un (t' := t) (h' := hp) ⟨fun _ _ q _ _ _ => q, fun _ o q _ _ _ => ⟨o.slots, q⟩, fun b o q n _ => ?_, fun _ o q _ => ⟨o, q⟩, fun b xs q => ?_, fun b o u q => ?_, fun b ps q => ⟨#[], ?_⟩⟩ (I.hok.untrack ha)
  · by_cases z : b = a
    · rw [z, del_same]
    · rw [del_ne z]
      exact n
  · rw [del_ne (ne q (by intro z; cases z))]
    exact q
  · rw [del_ne (ne q (by intro z; cases z))]
    exact q
  · rw [del_ne (ne q (by intro z; cases z)), q]
    simp
end

/-! ### a def whose exceptions leave it -/
section
variable {P : Program} {w : World} {K : PySem.W.Frag} {mg : Str → Option Value} {base : Heap} {N : List Str} {qual : Str} {scope : Scope} {f : Addr} {cd : Value} {A : Around} {outer : List Env} {s0 : Shared} {H0 : Hp} {E : XK}
theorem new_of {X : Cx} {pins : List (Addr × Obj)} {σ : St} {H : Hp} {s : Shared} (I : Inv X pins σ H s) (hx : X.ex = []) {a : Addr} (h : s.heap.get? a = none) : X.s_0.heap.get? a = none := by
  cases q : X.s_0.heap.get? a with
  | none => rfl
  | some o =>
    obtain ⟨o', e⟩ := I.base.there a o q (by rw [hx]; simp)
    rw [h] at e
    cases e
/-- raised here: it leaves -/
theorem raise_up {pins : List (Addr × Obj)} {σ : St} {H : Hp} {s : Shared} {ea C dx : Addr} {fs : List (Str × V)}
    (I : Inv (cxOf (CXE P w) P w K mg base N qual scope f cd A outer s0 H0 E) pins σ H s) (he : H ea = some (ExF ea C dx)) (hd : H dx = some (.xd fs)) (hn : s0.heap.get? ea = none) (hE : E (.ref C) (some dx) (del H ea)) :
    (cxOf (CXE P w) P w K mg base N qual scope f cd A outer s0 H0 E).xe (.ref ea) s := by
  obtain ⟨⟨vs, sl, h1, h2⟩, _⟩ := I.hok ea _ he
  have J := I.untrack he
  refine XB.leave_first (base := base) J.ok.frames J.stack rfl ⟨vs, sl, h1, h2⟩ fun h' T F nT N => ?_
  have nT0 : s.heap.get? T = none := Heap.get?_none_of_le nT
  refine ⟨ea, C, dx, T, del H ea, rfl, J.os, J.bare, ?_, ?_, F, hn, new_of J rfl nT0, del_same, J.hok.fresh nT, ⟨fs, ?_⟩, hE⟩
  · exact Un.noted J.base N rfl (Heap.get?_none_of_le J.ok.above) hn (fun T z => by cases z)
  · exact HOk.noted J.hok N J.stkFree del_same (fun T z => by cases z)
  · rw [del_ne (ne_of hd he (by intro z; cases z))]
    exact hd
/-- a callee's goes on to the caller -/
theorem pass_up : Passes (CXE P w) (cxOf (CXE P w) P w K mg base N qual scope f cd A outer s0 H0 E) E := by
  intro pins σ H s e s' I x
  obtain ⟨ea, C, dx, T, H', rfl, os, bare, un, hok, F, n1, n2, f1, f2, xd, hE⟩ := x
  have J := I.call' os un hok bare (fun b z => absurd z (by simp))
  refine XB.leave_next (base := base) J.ok.frames J.stack rfl F fun h' T' F' nT N => ?_
  have nT0 : s'.heap.get? T' = none := Heap.get?_none_of_le nT
  refine ⟨ea, C, dx, T', H', rfl, J.os, J.bare, ?_, ?_, F', new_of I rfl n1, new_of J rfl nT0, f1, J.hok.fresh nT, xd, hE⟩
  · exact Un.noted J.base N rfl (Heap.get?_none_of_le J.ok.above) (new_of I rfl n1) (fun T0 z => by cases z; exact new_of I rfl n2)
  · exact HOk.noted J.hok N J.stkFree f1 (fun T0 z => by cases z; exact f2)
/-- loops let it through -/
theorem pass_own : PassesOwn (model P w) (cxOf (CXE P w) P w K mg base N qual scope f cd A outer s0 H0 E).A (cxOf (CXE P w) P w K mg base N qual scope f cd A outer s0 H0 E).env (cxOf (CXE P w) P w K mg base N qual scope f cd A outer s0 H0 E).xe :=
  PassesOwn.leaving
end
section
variable {P : Program} {w : World} {K : PySem.W.Frag} {mg : Str → Option Value} {base : Heap}
/-- THE RULE for a def that may raise -/
theorem Fun.okE {x qual : Str} {st : Stmt} {f : Addr} {fd : FuncData} {N ps : List Str} {k : Nat} {sp : Sp} (F : Fun K x qual st f fd) (S : FnScope N ps (defScope st)) (len : ∀ vs H Q E, sp vs H Q E → vs.length = ps.length)
    (hbody : ∀ (cdv : Value) (A : Around) (outer : List Env) (s : Shared) (H : Hp) (vs : List V) (Q : VK) (E : XK), Room k (A.deeper (envOfC qual (defScope st) s.heap.objs.size f cdv)) → sp vs H Q E →
      ∃ t, PSs (cxOf (CXE P w) P w K mg base N qual (defScope st) f cdv A outer s H E) (defBody st) t ∧ t { nx := fun _ H' => Q .non H', rt := Q } (start N vs) H) : FnOk P w K mg base (CXE P w) (k + 1) f fd ps sp := by
  obtain ⟨oc, od, kV, doc, pm, an, cdv, ct, osl, rfl, lk, hcd⟩ := F.ex
  exact fn_of lk hcd S len fun A outer s H vs Q E hr hsp => hbody cdv A outer s H vs Q E hr hsp
end

/-! ### what of the text the class must have -/
def exIn (K : PySem.W.Frag) (C fI : Addr) (ns : List Str) : Bool := match K.lookup C with
  | some ⟨.type "type", _, .cls cd, sl⟩ => (match cd.mro, sl.toList with
    | .ref C' :: bm, [_, _, _, _, some (.builtin n), _] => C' == C && n == "ValueError.__new__" && !cd.hasDel && cd.hasDict && bm == XB.bmV && PySem.W.nsOkIn K cd.ns && PySem.W.nsIn K cd.ns "__init__" == some (some (.ref fI)) &&
      PySem.W.nsIn K cd.ns "__setattr__" == some none && PySem.W.nsIn K cd.ns "__getattribute__" == some none && PySem.W.nsIn K cd.ns "__getattr__" == some none && ns.all fun x => PySem.W.nsIn K cd.ns x == some none
    | _, _ => false)
  | _ => false
theorem ns_is {K : PySem.W.Frag} {h : Heap} {N : Addr} {mN : Str → Option Value} {n : Str} {v : Value} (X : K.In h) (G : h.Ns N mN) (e : PySem.W.nsIn K N n = some (some v)) : mN n = some v := by
  obtain ⟨o, es, ep, ho, hd, _, hf⟩ := G
  unfold PySem.W.nsIn at e
  split at e
  · rename_i c d es' n' sl q
    have z := X _ _ q
    rw [ho] at z
    cases z
    cases hd
    split at e
    · rename_i en he
      cases e
      rw [← hf]
      unfold nsFind findBy
      rw [← Array.find?_toList, he]
      rfl
    · split at e <;> cases e
  · cases e
theorem exIn_cls {K : PySem.W.Frag} {C fI : Addr} {ns : List Str} (q : exIn K C fI ns = true) {h : Heap} (X : K.In h) : XB.Cls h C fI ns := by
  unfold exIn at q
  split at q
  · rename_i dd cd sl ho
    split at q
    · rename_i C' bm k0 k1 k2 k3 n k5 hm hs
      simp only [Bool.and_eq_true, beq_iff_eq, Bool.not_eq_true'] at q
      obtain ⟨⟨⟨⟨⟨⟨⟨⟨⟨⟨rfl, rfl⟩, hdel⟩, hdict⟩, hbm⟩, hok⟩, h1⟩, h2⟩, h3⟩, h4⟩, h5⟩ := q
      obtain ⟨nm, bs, mro, nsA, qn, hd, sn, sub, ab, col, dl⟩ := cd
      dsimp only at hm hdel hdict hok h1 h2 h3 h4 h5
      subst hm hdel hdict hbm
      have hsl : sl = #[k0, k1, k2, k3, some (.builtin "ValueError.__new__"), k5] := by
        obtain ⟨l⟩ := sl
        simp only at hs
        rw [hs]
      subst hsl
      have G : h.Ns nsA (h.nsMap nsA) := .of_isNs (PySem.W.isNs_of_in X hok)
      exact ⟨nm, qn, nsA, bs, sn, sub, ab, col, dd, k0, k1, k2, k3, k5, _, X _ _ ho, G, ns_is X G h1, PySem.W.ns_none_of X G h2, PySem.W.ns_none_of X G h3, PySem.W.ns_none_of X G h4, fun x hx => PySem.W.ns_none_of X G (beq_iff_eq.mp (List.all_eq_true.mp h5 x hx))⟩
    · cases q
  · cases q
def fnCls (K : PySem.W.Frag) (f : Addr) : Bool := match K.lookup f with
  | some o => o.cls == .type "function"
  | none => false
theorem fnCls_at {K : PySem.W.Frag} {f : Addr} (q : fnCls K f = true) {h : Heap} (X : K.In h) : ∃ o, h.get? f = some o ∧ o.cls = .type "function" := by
  unfold fnCls at q
  split at q
  · rename_i o ho
    exact ⟨o, X _ _ ho, beq_iff_eq.mp q⟩
  · cases q
structure ExMk (K : PySem.W.Frag) (C fI : Addr) (ns : List Str) : Prop where
  ex : exIn K C fI ns = true
  fn : fnCls K fI = true
  kp : PySem.W.keepIn K (.ref C) = true

theorem ObjOk.there {P : Program} {w : World} {H : Hp} {h : Heap} {a : Addr} {o : HO} (x : ObjOk P w H h a o) : ∃ ob, h.get? a = some ob := by
  cases o with
  | lst xs => obtain ⟨_, _, _, _, e⟩ := x; exact ⟨_, e⟩
  | tup xs => obtain ⟨_, _, _, ob, e, _⟩ := x; exact ⟨ob, e⟩
  | dK kvs => obtain ⟨_, _, _, _, o, _, _, e, _⟩ := x; exact ⟨o, e⟩
  | dT kvs => obtain ⟨_, _, _, _, o, _, _, e, _⟩ := x; exact ⟨o, e⟩
  | set S n => obtain ⟨o, _, _, _, e, _⟩ := x; exact ⟨o, e⟩
  | ins C dx fs => obtain ⟨_, _, _, e, _⟩ := x; exact ⟨_, e⟩
  | own y => exact x
  | xd fs => obtain ⟨_, ⟨o, _, _, e, _⟩, _⟩ := x; exact ⟨o, e⟩
  | rng lo hi => obtain ⟨_, _, _, e⟩ := x; exact ⟨_, e⟩
  | frz ob u => obtain ⟨e, _⟩ := x; exact ⟨_, e⟩
  | tbl ps => exact ⟨_, (show h.get? a = some _ from x)⟩
  | met f y => exact ⟨_, (show h.get? a = some _ from x)⟩
  | ext φ => obtain ⟨_, e, _⟩ := x; exact e
theorem HOk.none_at {P : Program} {w : World} {H : Hp} {h : Heap} (x : HOk P w H h) {a : Addr} (e : h.get? a = none) : H a = none := by
  cases q : H a with
  | none => rfl
  | some o =>
    obtain ⟨ob, z⟩ := (x a o q).there
    rw [e] at z
    cases z
theorem ex0_ok {P : Program} {w : World} {H : Hp} {h : Heap} {e C : Addr} {vs : Array Value} {sl : Array (Option Value)} (a : h.get? e = some { cls := .ref C, dict := none, data := .fields vs, slots := sl }) (b : vs[1]? = some .none) : ObjOk P w H h e (Ex0 e C) :=
  ⟨⟨vs, sl, a, b⟩, ⟨_, a⟩, fun _ _ ⟨vs, sl, a, b⟩ k => ⟨vs, sl, k _ a, b⟩⟩
theorem exF_ok {P : Program} {w : World} {H : Hp} {h : Heap} {e C dx : Addr} {vs : Array Value} {sl : Array (Option Value)} (a : h.get? e = some { cls := .ref C, dict := some dx, data := .fields vs, slots := sl }) (b : vs[1]? = some .none) : ObjOk P w H h e (ExF e C dx) :=
  ⟨⟨vs, sl, a, b⟩, ⟨_, a⟩, fun _ _ ⟨vs, sl, a, b⟩ k => ⟨vs, sl, k _ a, b⟩⟩
/-! ### self.name = value, in the exception's __init__, as its first attribute -/
def sX0 (K : PySem.W.Frag) (ta tv : TE) (name : Str) : TS := fun D σ H => tv σ H fun y H1 => ta σ H1 fun x H2 => ∃ e C fI ns, x = .ref e ∧ H2 e = some (Ex0 e C) ∧ exIn K C fI ns = true ∧ name ∈ ns ∧ typeLookup (.type "ValueError") name = pure none ∧
  ∀ dx, H2 dx = none → dx ≠ e → D.nx σ (upd (upd H2 dx (.xd [(name, y)])) e (ExF e C dx))
section
variable {X : Cx} {o e value : Expr} {name : Str} {pos pos' : Pos} {ta tv : TE}
theorem ps_x0 (ha : PE X o ta) (hv : PE X value tv) (hs : swapsWith value (some (.Attribute o name pos')) pos.line X.env = pure false) : PS X (.Assign [.Attribute o name pos'] value pos) (sX0 X.K ta tv name) := by
  intro pins s σ H D I h
  refine plainObj_wpAny_Assign_Attribute (thn (hv pins s σ H _ I h) fun u s1 ⟨y, H1, I1, ry, q⟩ => thn (ha pins s1 σ H1 _ I1 q) fun ov s2 ⟨x, H2, I2, rx, e, C, fI, ns, ex, he, hx, hna, hB, q2⟩ => ?_) hs
  subst ex
  obtain rfl : ov = Value.ref e := rx
  obtain ⟨⟨vs, sl, g1, g2⟩, _⟩ := I2.hok e _ he
  obtain ⟨hp, g, d, t, os⟩ := s2
  refine XB.set_attr0 (exIn_cls hx I2.kIn) hna hB g1 fun h' tk' a1 a2 a3 => ?_
  have hdx : H2 hp.objs.size = none := I2.hok.fresh (Nat.le_refl _)
  have nde : hp.objs.size ≠ e := Nat.ne_of_gt (Heap.lt_size g1)
  refine ⟨σ, _, ?_, q2 hp.objs.size hdx nde⟩
  have ne : ∀ {b u}, H2 b = some u → u ≠ Ex0 e C → b ≠ e := fun q d => ne_of q he d
  have nd : ∀ {b u}, H2 b = some u → b ≠ hp.objs.size := fun q => ne_of_none q hdx
  have nn : ∀ {b}, H2 b = none → b ≠ e := fun q z => by
    rw [z, he] at q
    cases q
  refine I2.un (h' := h') (t' := tk') ⟨fun b o q n _ _ => a3 b o (nn n) q, fun b o q n _ _ => ⟨o.slots, a3 b o (nn n) q⟩, fun b o q n _ => ?_, fun b o q _ => ?_, fun b xs q => ?_, fun b ob u q => ?_, fun b ps q => ⟨#[], ?_⟩⟩ fun b u q => ?_
  · rw [upd_ne (nn n), upd_ne (Nat.ne_of_lt (Heap.lt_size q))]
    exact n
  · by_cases z : b = e
    · rw [z]
      exact ⟨_, a1⟩
    · exact ⟨o, a3 b o z q⟩
  · rw [upd_ne (ne q (by intro z; cases z)), upd_ne (nd q)]
    exact q
  · rw [upd_ne (ne q (by intro z; cases z)), upd_ne (nd q)]
    exact q
  · rw [upd_ne (ne q (by intro z; cases z)), upd_ne (nd q), q]
    simp
  · by_cases be : b = e
    · subst be
      rw [upd_same] at q
      cases q
      exact exF_ok a1 g2
    · rw [upd_ne be] at q
      by_cases bd : b = hp.objs.size
      · subst bd
        rw [upd_same] at q
        cases q
        refine ⟨_, a2, fun f => ?_⟩
        by_cases z : f = name
        · subst z
          rw [if_pos rfl]
          show RelO (List.lookup f [(f, y)]) (some u)
          simp [List.lookup]
          exact ry
        · rw [if_neg z]
          have zb : (f == name) = false := by simpa using z
          show RelO (List.lookup f [(name, y)]) none
          simp [List.lookup, zb]
          trivial
      · rw [upd_ne bd] at q
        refine (I2.hok b u q).stay (fun c v hc r => a3 c v ?_ r) (fun c r => ?_) fun c xs r => ?_
        · rcases hc with z | z
          · rw [z]
            exact be
          · exact ne z (by intro z; cases z)
        · rw [upd_ne (ne r (by intro z; cases z)), upd_ne (nd r)]
          exact r
        · rw [upd_ne (ne r (by intro z; cases z)), upd_ne (nd r)]
          exact r
end

/-! ### raise C(..) -/
def tRaise (C : Addr) (spI : Sp) (E : XK) (t : TA) : TS := fun _ σ H => t σ H fun vs H1 => ∀ ea, H1 ea = none → spI (.ref ea :: vs) (upd H1 ea (Ex0 ea C)) (fun v H2 => v = .non ∧ ∃ dx fs, H2 ea = some (ExF ea C dx) ∧ H2 dx = some (.xd fs) ∧ E (.ref C) (some dx) (del H2 ea)) fun _ _ _ => False
section
variable {P : Program} {w : World} {K : PySem.W.Frag} {mg : Str → Option Value} {base : Heap} {N : List Str} {qual : Str} {scope : Scope} {f : Addr} {cd : Value} {A : Around} {outer : List Env} {s0 : Shared} {H0 : Hp} {E : XK}
  {C fI : Addr} {ns psI : List Str} {fdI : FuncData} {spI : Sp} {k : Nat} {x : Str} {np cpos pos : Pos} {e : Expr} {es : List Expr} {t : TA}
theorem ps_raise (M : ExMk K C fI ns) (FI : FnOk P w K mg base CX0 k fI fdI psI spI) (hr : Room (k + 1) (A.deeper (envOfC qual scope s0.heap.objs.size f cd))) (hg : Gl (cxOf (CXE P w) P w K mg base N qual scope f cd A outer s0 H0 E) x) (hm : mg x = some (.ref C)) (hb : Binds K fdI psI [])
    (ha : PA (cxOf (CXE P w) P w K mg base N qual scope f cd A outer s0 H0 E) (e :: es) t) (hdb : (x == ("__debug__" : Str)) = false := by decide)
    (he : starEach (e :: es) (envOfC qual scope s0.heap.objs.size f cd) = (false, eval e (envOfC qual scope s0.heap.objs.size f cd)) :: starEach es (envOfC qual scope s0.heap.objs.size f cd) := by rfl) (hpl : (backTo cpos (starEach es (envOfC qual scope s0.heap.objs.size f cd))).any (·.1) = false := by rfl) (hps : psI.length ≤ 1000 := by decide) :
    PS (cxOf (CXE P w) P w K mg base N qual scope f cd A outer s0 H0 E) (.Raise (some (.Call (.Name x np) (e :: es) [] cpos)) none pos) (tRaise C spI E t) := by
  intro pins s σ H D I h
  rw [arm_exec_Raise]
  refine wpAny_bind (wpAny_standAt ?_)
  refine XB.raise_made (C := C) (fI := fI) (ns := ns) hr.hd ?_
  refine wpAny_bind (wpAny_mono (wpAny_Call_Name_kw (ld_glob I hg hm ?_ hdb)) (fun v s3 h3 => wpAny_bind (wpAny_standAt (wpAny_pure h3))) fun _ _ z => z)
  refine PySem.W.callWith_K (h₀ := base) I.ok.mod.kin M.kp (thn (ha cpos pins s σ H _ I h) fun us s1 ⟨vs, H1, I1, r, q⟩ => ⟨I1.kIn, ?_⟩) he hpl
  obtain ⟨hp, g, d, t, os⟩ := s1
  have X1 := exIn_cls M.ex I1.kIn
  obtain ⟨nm, qn, N', bs, sn, sub, ab, col, dd, k0, k1, k2, k3, k5, mN, hC, hN, h1, _⟩ := id X1.ex
  obtain ⟨oI, hoI, hcI⟩ := fnCls_at M.fn I1.kIn
  have hz : us.length ≤ sizeLine := by
    have e1 : (V.ref hp.objs.size :: vs).length = psI.length := FI.len _ _ _ _ (q hp.objs.size (I1.hok.fresh (Nat.le_refl _)))
    rw [List.length_cons, r.length] at e1
    rw [sizeLine_eq]
    omega
  show wpAny _ _ (call (.ref C) us) _ _ _
  refine wpAny_call_exc_init PySem.F.excBase_ValueError hC hN h1 hoI hcI (fun h' ea hm' => ?_) hz
  have hn : H1 ea = none := I1.hok.none_at hm'.new
  obtain ⟨tt, he1, _⟩ := hm'.there
  have I2 := I1.laid0 (o := Ex0 ea C) (t' := t) hm'.keeps hm'.new hn (ex0_ok he1 rfl)
  have sp := q ea hn
  have r2 : Vals (V.ref ea :: vs) (Value.ref ea :: us) := .cons rfl r
  have hl : (Value.ref ea :: us ++ []).length = psI.length := by
    rw [List.append_nil, ← r2.length]
    exact FI.len _ _ _ _ sp
  have hb2 := hb _ (Value.ref ea :: us) I2.kIn hl
  rw [List.append_nil] at hb2
  refine wpAny_call (codeAny_mono (FI.run _ _ _ _ ⟨Value.ref ea :: us, []⟩ (Value.ref ea :: us) (V.ref ea :: vs) _ _ (hr.make C us []) (I2.env0.make C us []) hb2 r2 sp) fun r s' hq => ?_)
  cases r with
  | error e => exact hq.elim
  | ok fl =>
    cases fl with
    | ret u =>
      obtain ⟨v, H', I3, rv, ev, dx, fs, e1, e2, e3⟩ := I2.after hq
      subst ev
      obtain ⟨⟨vs', sl', g1, g2⟩, _⟩ := I3.hok ea _ e1
      exact ⟨rv, ea, dx, vs', sl', rfl, exIn_cls M.ex I3.kIn, g1, g2, raise_up I3 e1 e2 (new_of I1 rfl hm'.new) e3⟩
    | next => exact False.elim hq
    | brk => exact False.elim hq
    | cont => exact False.elim hq
end
end L2

end

section
set_option Elab.async false
set_option linter.all false
set_option maxRecDepth 100000
set_option maxHeartbeats 1000000
/-! try: .. except C [as n]: .., and calls within an except suite. -/
namespace L2
open PySem PySem.Spec PyProof.Rows

/-! ### within a try's body, within an except suite -/
abbrev Cx.tr (X : Cx) (pl : List (Addr × Obj)) (E' : Value → Shared → Prop) : Cx := { X with xe := E', pn := X.pn ++ pl }
abbrev Cx.su (X : Cx) (e : Addr) (pl : List (Addr × Obj)) : Cx := { X with A := X.A.mark (some (.ref e)), calm := false, xe := fun _ _ => False, pn := X.pn ++ pl }
section
variable {X : Cx} {pins pl : List (Addr × Obj)} {σ : St} {H : Hp} {s : Shared} {E' : Value → Shared → Prop}
theorem Inv.into (I : Inv X pl σ H s) : Inv (X.tr pl E') [] σ H s :=
  ⟨⟨I.ok.mod, I.ok.kind, I.ok.glob, I.ok.blt, I.ok.above, I.ok.inj, I.ok.has, I.ok.cab, I.ok.hd, I.ok.frames, I.ok.stk, I.ok.exf, I.ok.bs, I.ok.bsz, I.ok.noex, I.ok.exfs, I.ok.funs, I.ok.frf⟩, I.os, I.bare, I.base, I.loc, I.cell, I.free, I.freeC,
    fun p hp => I.pin p (by rw [List.append_nil] at hp; exact hp), I.hok, I.len⟩
theorem Inv.outof (I : Inv (X.tr pl E') pins σ H s) : Inv X pl σ H s :=
  ⟨⟨I.ok.mod, I.ok.kind, I.ok.glob, I.ok.blt, I.ok.above, I.ok.inj, I.ok.has, I.ok.cab, I.ok.hd, I.ok.frames, I.ok.stk, I.ok.exf, I.ok.bs, I.ok.bsz, I.ok.noex, I.ok.exfs, I.ok.funs, I.ok.frf⟩, I.os, I.bare, I.base, I.loc, I.cell, I.free, I.freeC,
    fun p hp => I.pin p (List.mem_append_left _ hp), I.hok, I.len⟩
theorem Inv.suite (I : Inv (X.tr pl E') pins σ H s) (e : Addr) : Inv (X.su e pl) pins σ H s :=
  ⟨⟨I.ok.mod, I.ok.kind, I.ok.glob, I.ok.blt, I.ok.above, I.ok.inj, I.ok.has, I.ok.cab, fun z => Bool.noConfusion (show false = true from z), I.ok.frames, I.ok.stk, I.ok.exf, I.ok.bs, I.ok.bsz, I.ok.noex, I.ok.exfs, I.ok.funs, I.ok.frf⟩, I.os, I.bare, I.base, I.loc, I.cell, I.free, I.freeC, I.pin, I.hok, I.len⟩
/-- what the suite leaves, in the def's own context again (the def's own calm is known) -/
theorem Inv.unsuite {e : Addr} (ok : X.Ok) (I : Inv (X.su e pl) pins σ H s) : Inv X pl σ H s :=
  ⟨ok, I.os, I.bare, I.base, I.loc, I.cell, I.free, I.freeC, fun p hp => I.pin p (List.mem_append_left _ hp), I.hok, I.len⟩

end

/-! ### the rules -/
/-- except C -/
def tTry0 (len : Nat) (C : Addr) (tb : XK → TS) (ts : TS) : TS := fun D σ H =>
  tb (fun Cv odx H' => Cv = .ref C ∧ ∀ dx, odx = some dx → ∀ (σ' : St), σ'.length = len → ts D σ' H') D σ H
section
variable {X : Cx} {body suite : List Stmt} {b0 : Stmt} {cn n : Str} {np hpos pos : Pos} {C fI : Addr} {ns : List Str} {i : Nat} {tb : XK → TS} {ts : TS}
theorem ps_try0 (hx : exIn X.K C fI ns = true) (hg : Gl X cn) (hm : X.mg cn = some (.ref C)) (hst : X.stack = X.env :: X.outer) (hfr : X.env.frame = some X.env.locals)
    (hb : ∀ pl E' (E : XK), Passes (CXE X.prog X.w) (X.tr pl E') E → PSs (X.tr pl E') body (tb E)) (hs : ∀ e pl, PSs (X.su e pl) (b0 :: suite) ts) (hdb : (cn == ("__debug__" : Str)) = false := by decide) :
    PS X (.Try body [.ExceptHandler (some (.Name cn np)) none (b0 :: suite) hpos] [] [] pos) (tTry0 X.N.length C tb ts) := by
  intro pl s σ H D I h
  refine wpAny_Try_except ?_
  refine wpAny_mono (hb pl _ _ ?_ [] s σ H D (I.into (E' := fun e s1 => wpAny (model X.prog X.w) X.A (noteFrame e X.env) (fun _ s2 => wpAny (model X.prog X.w) X.A (setFlight e none) (fun _ s3 =>
    wpAny (model X.prog X.w) X.A (handleBy e X.env [.ExceptHandler (some (.Name cn np)) none (b0 :: suite) hpos]) (SP X pl D) X.xe s3) X.xe s2) X.xe s1)) h) (fun f s1 q => ?_) fun e s1 q => q
  · intro pins σ' H1 s1 e s' I1 x
    obtain ⟨ea, C', dx, T, H', rfl, os, bare, un, hok, F, n1, n2, f1, f2, ⟨fs, xd⟩, hE1, hE2⟩ := x
    cases hE1
    have J := I1.call' os un hok bare (fun b z => absurd z (by simp))
    refine XB.note_next (base := X.base) (outer := X.outer) (L := X.env.locals) (hst ▸ J.ok.frames) (hst ▸ J.stack) hfr F fun h1 T1 F1 nT1 N1 => ?_
    have N1' : XB.Noted X.stack s'.heap h1 ea (some T) := by
      rw [hst]
      exact N1
    have un1 := Un.noted2 un N1' n1 (fun T0 z => by cases z; exact n2)
    have hok1 := HOk.noted hok N1' J.stkFree f1 (fun T0 z => by cases z; exact f2)
    have J1 : Inv (X.tr pl _) pins σ' H' { s' with heap := h1 } := I1.call' (s' := { s' with heap := h1 }) os un1 hok1 bare (fun b z => absurd z (by simp))
    have hT1 : H' T1 = none := J.hok.fresh nT1
    have nT2 : s1.heap.get? T1 = none := by
      cases q : s1.heap.get? T1 with
      | none => rfl
      | some o =>
        obtain ⟨o', e'⟩ := un.there T1 o q (by simp)
        rw [Heap.get?_none_of_le nT1] at e'
        cases e'
    refine XB.caught_plain (C := C) (fI := fI) (ns := ns) ?_
    obtain ⟨vs1, sl1, g1, _⟩ := F1.ex
    refine ld_glob (X := X.su ea pl) (J1.suite ea) hg hm ⟨rfl, exIn_cls hx J1.kIn, ⟨_, g1, rfl⟩, ?_⟩ hdb
    refine XB.land_again F1 fun h2 F2 k2 => ?_
    have J2 : Inv (X.tr pl _) pins σ' H' { s' with heap := h2 } := I1.call' (s' := { s' with heap := h2 }) os (Un.turned un1 k2 nT2) (HOk.turned hok1 k2 hT1) bare (fun b z => absurd z (by simp))
    refine wpAny_mono (hs ea pl pins _ _ _ D (J2.suite ea) (hE2 dx rfl σ' J1.len)) (fun f s4 q => ?_) fun _ _ z => z
    cases f with
    | next =>
      obtain ⟨σ4, H4, I4, q4⟩ := q
      exact ⟨σ4, H4, I4.unsuite I.ok, q4⟩
    | brk =>
      obtain ⟨σ4, H4, I4, q4⟩ := q
      exact ⟨σ4, H4, I4.unsuite I.ok, q4⟩
    | cont =>
      obtain ⟨σ4, H4, I4, q4⟩ := q
      exact ⟨σ4, H4, I4.unsuite I.ok, q4⟩
    | ret u =>
      obtain ⟨v, σ4, H4, I4, rv, q4⟩ := q
      exact ⟨v, σ4, H4, I4.unsuite I.ok, rv, q4⟩
  · cases f with
    | next =>
      obtain ⟨σ4, H4, I4, q4⟩ := q
      exact wpAny_execs_nil ⟨σ4, H4, I4.outof, q4⟩
    | brk =>
      obtain ⟨σ4, H4, I4, q4⟩ := q
      exact ⟨σ4, H4, I4.outof, q4⟩
    | cont =>
      obtain ⟨σ4, H4, I4, q4⟩ := q
      exact ⟨σ4, H4, I4.outof, q4⟩
    | ret u =>
      obtain ⟨v, σ4, H4, I4, rv, q4⟩ := q
      exact ⟨v, σ4, H4, I4.outof, rv, q4⟩
end

/-! ### a def that may be called within an except suite: nothing of it asks whether one runs -/
structure RoomC (k : Nat) (A : Around) : Prop where
  dp : A.depth + 3 * k + 5 < recursionLimit
  un : A.units + 16 * k + 200 < cLine
theorem Room.c {k : Nat} {A : Around} (r : Room k A) : RoomC k A := ⟨r.dp, r.un⟩
theorem RoomC.deeper {k : Nat} {A : Around} (r : RoomC (k + 1) A) (env : Env) : RoomC k (A.deeper env) :=
  ⟨by have := r.dp; show A.depth + 1 + 3 * k + 5 < _; omega, by have := r.un; show A.units + 3 + 16 * k + 200 < _; omega⟩
structure FnOkC (P : Program) (w : World) (K : PySem.W.Frag) (mg : Str → Option Value) (base : Heap) (CX : CXT) (k : Nat) (f : Addr) (fd : FuncData) (ps : List Str) (sp : Sp) : Prop where
  len : ∀ vs H Q E, sp vs H Q E → vs.length = ps.length
  run : ∀ (A : Around) (outer : List Env) (s : Shared) (H : Hp) (args : Args) (us : List Value) (vs : List V) (Q : VK) (E : XK), RoomC k A → Env0 P w K mg base A outer s H → BindsTo s fd args (ps.zip us) → Vals vs us → sp vs H Q E →
    codeAny (model P w) A (.call (.ref f) args) (CR CX outer P w H s Q E) s
def cxOfC (CX : CXT) (P : Program) (w : World) (K : PySem.W.Frag) (mg : Str → Option Value) (base : Heap) (N : List Str) (qual : Str) (scope : Scope) (f : Addr) (cd : Value) (A : Around) (outer : List Env) (s : Shared) (H : Hp) (E : XK) : Cx :=
  { cxOf CX P w K mg base N qual scope f cd A outer s H E with calm := false }
theorem fn_ofC {CX : CXT} {P : Program} {w : World} {K : PySem.W.Frag} {mg : Str → Option Value} {base : Heap} {k : Nat} {f : Addr} {name qual : Str} {params : Arguments} {body : List Stmt} {scope : Scope} {dV kV doc pm cdv ct oc : Value} {an od : Option Addr}
    {osl : Array (Option Value)} {N ps : List Str} {sp : Sp} (lk : K.lookup f = some ⟨oc, od, .func (PySem.W.fnOf name qual params body scope dV kV doc pm an cdv ct), osl⟩) (hcd : PySem.W.codeIn K cdv qual = true) (S : FnScope N ps scope)
    (len : ∀ vs H Q E, sp vs H Q E → vs.length = ps.length)
    (hbody : ∀ (A : Around) (outer : List Env) (s : Shared) (H : Hp) (vs : List V) (Q : VK) (E : XK), RoomC k (A.deeper (envOfC qual scope s.heap.objs.size f cdv)) → sp vs H Q E →
      ∃ t, PSs (cxOfC CX P w K mg base N qual scope f cdv A outer s H E) body t ∧ t { nx := fun _ H' => Q .non H', rt := Q } (start N vs) H) :
    FnOkC P w K mg base CX (k + 1) f (PySem.W.fnOf name qual params body scope dV kV doc pm an cdv ct) ps sp := by
  refine ⟨len, fun A outer s H args us vs Q E hr e0 hb r hsp => ?_⟩
  have hl := len _ _ _ _ hsp
  have KX : K.In s.heap := e0.mod.kin.keeps fun b o e => (e0.bs b o e).1
  have lim : s.heap.NoLimit := e0.mod.nolimit.keeps fun b o e => (e0.bs b o e).1
  have hkind : ∀ y ∈ ps.zip us, scope.names.lookup y.1 = some .local ∨ (scope.names.lookup y.1 = some .cell ∧ ((cellsFrom (s.heap.objs.size + 1) scope.names []).lookup y.1).isSome = true) := fun ⟨n, v⟩ hy => by
    rcases S.par n (List.of_mem_zip hy).1 with q | q
    · exact .inl q
    · exact .inr ⟨q, PySem.W.cellsFrom_some _ _ _ (.inl q)⟩
  refine codeAny_call_function (by have := hr.dp; omega) (KX _ _ lk) rfl S.co S.gen rfl (PySem.W.codeRec_of KX hcd) (hb _ _ _ _ ?_)
  refine wpAny_newFunctionEnv_cells S.kind hkind fun env he s1 x => ?_
  subst he
  refine ⟨lim.keeps x.toInCall.keep, codeAny_func ?_⟩
  obtain ⟨t, ht, hq⟩ := hbody A outer s H vs Q E (hr.deeper _) hsp
  have e0' : Env0 P w K mg base { A with handled := none } outer s H := ⟨e0.frames, e0.mod, e0.bs, e0.bsz, e0.funs, e0.frf, e0.hok, e0.bare⟩
  have I0 : Inv (cxOf CX P w K mg base N qual scope f cdv { A with handled := none } outer s H E) [] (start N vs) H s1 := inv_start S rfl e0' hl r x
  have I : Inv (cxOfC CX P w K mg base N qual scope f cdv A outer s H E) [] (start N vs) H s1 :=
    ⟨⟨I0.ok.mod, I0.ok.kind, I0.ok.glob, I0.ok.blt, I0.ok.above, I0.ok.inj, I0.ok.has, I0.ok.cab, fun z => Bool.noConfusion (show false = true from z), Around.frames_deeper e0.frames, I0.ok.stk, I0.ok.exf, I0.ok.bs, I0.ok.bsz, I0.ok.noex, I0.ok.exfs, I0.ok.funs, I0.ok.frf⟩, I0.os, I0.bare, I0.base, I0.loc, I0.cell, I0.free, I0.freeC, I0.pin, I0.hok, I0.len⟩
  refine wpAny_mono (ht [] s1 (start N vs) H _ I hq) (fun fl s' hs => ?_) fun e s' hs => hs
  have fin : ∀ {σ' : St} {H' : Hp} {v : V} {u : Value}, Inv (cxOfC CX P w K mg base N qual scope f cdv A outer s H E) [] σ' H' s' → RelV v u → Q v H' → CE outer P w H s Q u s' :=
    fun {σ' H' v u} J rv q => ⟨v, H', J.os, J.bare, J.base, J.hok, rv, q⟩
  cases fl with
  | ret u =>
    obtain ⟨v, σ', H', J, rv, q⟩ := hs
    exact fin J rv q
  | next =>
    obtain ⟨σ', H', J, q⟩ := hs
    exact fin (v := V.non) (u := Value.none) J rfl q
  | brk =>
    obtain ⟨_, _, _, q⟩ := hs
    exact False.elim q
  | cont =>
    obtain ⟨_, _, _, q⟩ := hs
    exact False.elim q
/-- THE RULE for a def that raises nothing and may be called anywhere -/
theorem Fun.okC {P : Program} {w : World} {K : PySem.W.Frag} {mg : Str → Option Value} {base : Heap} {x qual : Str} {st : Stmt} {f : Addr} {fd : FuncData} {N ps : List Str} {k : Nat} {sp : Sp} (F : Fun K x qual st f fd) (S : FnScope N ps (defScope st)) (len : ∀ vs H Q E, sp vs H Q E → vs.length = ps.length)
    (hbody : ∀ (cdv : Value) (A : Around) (outer : List Env) (s : Shared) (H : Hp) (vs : List V) (Q : VK) (E : XK), RoomC k (A.deeper (envOfC qual (defScope st) s.heap.objs.size f cdv)) → sp vs H Q E →
      ∃ t, PSs (cxOfC CX0 P w K mg base N qual (defScope st) f cdv A outer s H E).nox (defBody st) t ∧ t { nx := fun _ H' => Q .non H', rt := Q } (start N vs) H) : FnOkC P w K mg base CX0 (k + 1) f fd ps sp := by
  obtain ⟨oc, od, kV, doc, pm, an, cdv, ct, osl, rfl, lk, hcd⟩ := F.ex
  refine fn_ofC lk hcd S len fun A outer s H vs Q E hr hsp => ?_
  obtain ⟨t, h, q⟩ := hbody cdv A outer s H vs Q E hr hsp
  exact ⟨t, h.nox, q⟩
section
variable {X : Cx} {CX : CXT} {k : Nat} {f : Addr} {fd : FuncData} {ps : List Str} {sp : Sp} {E : XK} {x : Str} {p pos : Pos} {e : Expr} {es : List Expr} {t : TA}
theorem pe_callC (F : FnOkC X.prog X.w X.K X.mg X.base CX k f fd ps sp) (hr : RoomC k X.A) (hg : Gl X x) (hm : X.mg x = some (.ref f)) (hk : PySem.W.keepIn X.K (.ref f) = true) (hb : Binds X.K fd ps []) (hx : Passes CX X E)
    (ha : PA X (e :: es) t) (hdb : (x == ("__debug__" : Str)) = false := by decide) (he : starEach (e :: es) X.env = (false, eval e X.env) :: starEach es X.env := by rfl) (hpl : (backTo pos (starEach es X.env)).any (·.1) = false := by rfl) :
    PE X (.Call (.Name x p) (e :: es) [] pos) (tCall sp [] E t) := by
  intro pins s σ H Q I h
  refine wpAny_Call_Name_kw (ld_glob I hg hm ?_ hdb)
  refine PySem.W.callWith_K (h₀ := X.base) I.ok.mod.kin hk (thn (ha pos pins s σ H _ I h) fun us s1 ⟨vs, H1, I1, r, q⟩ => ⟨I1.kIn, ?_⟩) he hpl
  have r2 : Vals (vs ++ []) (us ++ []) := by
    rw [List.append_nil, List.append_nil]
    exact r
  have hl : (us ++ []).length = ps.length := by
    rw [← r2.length]
    exact F.len _ _ _ _ q
  refine wpAny_call (codeAny_mono (F.run X.A X.stack s1 H1 ⟨us, []⟩ (us ++ []) (vs ++ []) Q E hr I1.env0 (hb s1 us I1.kIn hl) r2 q) fun r s' hq => ?_)
  cases r with
  | error e => exact hx pins σ H1 s1 e s' I1 hq
  | ok fl =>
    cases fl with
    | ret u => exact I1.after hq
    | next => exact False.elim hq
    | brk => exact False.elim hq
    | cont => exact False.elim hq
end
end L2

end

section
set_option Elab.async false
set_option maxRecDepth 100000
/-! min and max with a default; sorted of a tuple. -/
namespace ML
open PySem

section
variable {prog : Program} {w : World} {A : Around} {E : Value → Shared → Prop} {s : Shared}
end

section
variable {prog : Program} {w : World} {A : Around} {R : Result → Shared → Prop} {I S : Addr} {fp wr : List Addr} {n : Nat} {P : Nat → Value → Prop} {St : Nat → Heap → Prop} {Good : Heap → Prop} {bt : Nat → Nat → Bool} {kw : List (Str × Value)}
end
section
variable {prog : Program} {w : World} {A : Around} {E : Value → Shared → Prop} {s : Shared} {l : Addr} {its : Array Value}
end

section
variable {prog : Program} {w : World} {A : Around} {R : Result → Shared → Prop} {I S : Addr} {fp wr : List Addr} {n : Nat} {P : Nat → Value → Prop} {St : Nat → Heap → Prop} {Good : Heap → Prop} {bt : Nat → Nat → Bool} {kw : List (Str × Value)}
end
section
variable {prog : Program} {w : World} {A : Around} {E : Value → Shared → Prop} {s : Shared} {l : Addr} {its : Array Value}
end

/-! ### sorted of a tuple -/
section
open PyProof.Rows
variable {prog : Program} {w : World} {A : Around} {E : Value → Shared → Prop} {s : Shared}
end
end ML

end

section
set_option Elab.async false
set_option linter.all false
set_option maxRecDepth 100000
set_option maxHeartbeats 1000000
/-! min and max with a default, sorted of a tuple, over the hand layer. -/
namespace L2
open PySem PySem.Spec PyProof.Rows

section
variable {X : Cx} {id : String} {ks : List Str} {r : List V → List V → Hp → VK → Prop} {x : Str} {p pos : Pos} {e : Expr} {es : List Expr} {kws : List Keyword} {t tk : TA}
end
section
variable {X : Cx}
end

/-! ### the least of a list of tuples of ints -/
section
variable {X : Cx}
end
/-! ### the rules that speak of the text's objects, where K is named (within a block or a suite) -/
section
variable {X : Cx} {K : PySem.W.Frag}
end
end L2

end

section
set_option Elab.async false
set_option linter.all false
set_option maxRecDepth 100000
set_option maxHeartbeats 1000000
/-! More rules: any over ints, the greatest of three, list(range(n)), a second attribute of an exception, tuples of the module. -/
namespace L2
open PySem PySem.Spec PyProof.Rows

/-! ### any over ints -/
section
variable {X : Cx}
/-! ### the greatest of three -/
/-! ### range(n), list(range(n)) -/
end
/-! ### a second attribute of an exception -/
section
variable {X : Cx} {o e value : Expr} {name : Str} {pos pos' : Pos} {ta tv : TE}
end
/-! ### tuples of the module -/
def intsIn : List Value → List Int → Bool
  | .int i _ :: r, n :: ns => i == n && intsIn r ns
  | [], [] => true
  | _, _ => false
theorem intsIn_vals : ∀ {its : List Value} {ns : List Int}, intsIn its ns = true → Vals (ns.map V.int) its
  | [], [], _ => .nil
  | v :: r, n :: ns, h => by
    unfold intsIn at h
    split at h
    · rename_i e1 e2
      cases e1
      cases e2
      rw [Bool.and_eq_true, beq_iff_eq] at h
      exact .cons ⟨_, by rw [h.1]⟩ (intsIn_vals h.2)
    · rename_i e1 _
      cases e1
    · cases h
  | [], _ :: _, h => by cases h
  | _ :: _, [], h => by
    unfold intsIn at h
    split at h
    · rename_i e1
      cases e1
    · rename_i e1 _
      cases e1
    · cases h
def tupIn (K : PySem.W.Frag) (a : Addr) (ns : List Int) : Bool := match K.lookup a with
  | some ⟨.type "tuple", _, .seq its _, _⟩ => decide (its.size ≤ 1000) && intsIn its.toList ns
  | _ => false
theorem tupIn_at {K : PySem.W.Frag} {a : Addr} {ns : List Int} (h : tupIn K a ns = true) (H : Hp) : SqT K H a (ns.map V.int) := by
  unfold tupIn at h
  split at h
  · rename_i d its n sl e
    rw [Bool.and_eq_true, decide_eq_true_eq] at h
    exact .inr ⟨_, its, n, e, rfl, rfl, Nat.le_trans h.1 (by decide), intsIn_vals h.2⟩
  · cases h
/-- a global that is a tuple of ints -/
def TupG (K : PySem.W.Frag) (mg : Str → Option Value) (x : Str) (ns : List Int) : Prop := ∃ a, mg x = some (.ref a) ∧ ∀ H : Hp, SqT K H a (ns.map V.int)
theorem tupG_of {K : PySem.W.Frag} {mg : Str → Option Value} {x : Str} {ns : List Int} {a : Addr} (e : mg x = some (.ref a)) (h : tupIn K a ns = true) : TupG K mg x ns := ⟨a, e, tupIn_at h⟩
/-! ### ints in tuples compared -/
/-! ### loops: enumerate of a list, zip of two lists, the signs of a text -/
theorem lc_str {x : Str} {g : TG} {tt : TT} {te : TE} {vs : List Nat} {σ : St} {H1 : Hp} {D : Addr} {Qd : Hp → Prop} (Pv : Nat → Hp → Prop) (h0 : Pv 0 (upd H1 D (.lst [])))
    (hs : ∀ i c H, x.cps[i]? = some c → Pv i H → g (.str ⟨#[c]⟩) (wipe σ vs) H fun σ2 H2 => wipe σ2 vs = wipe σ vs ∧ tt σ2 H2 fun b H3 =>
      if b = true then te σ2 H3 fun y H4 => ∃ acc, H4 D = some (.lst acc) ∧ acc.length < sizeLine ∧ Pv (i + 1) (upd H4 D (.lst (acc ++ [y]))) else Pv (i + 1) H3) (hd : ∀ H, Pv x.cps.size H → Qd H) :
    ∃ W : Nat → Nat → Hp → Prop, (∃ m, W 0 m (upd H1 D (.lst []))) ∧ ∀ i m H, W i m H →
      ((Its x).stop i H ∧ Qd H) ∨ ((Its x).go i H ∧ ∃ Nx : Hp → Prop, (∀ H', Nx H' → ∃ m', m' < m ∧ W (i + 1) m' H') ∧ ∀ v H', (Its x).yld i H v H' → g v (wipe σ vs) H' fun σ2 H2 => wipe σ2 vs = wipe σ vs ∧ tt σ2 H2 fun b H3 =>
        if b = true then te σ2 H3 fun y H4 => ∃ acc, H4 D = some (.lst acc) ∧ acc.length < sizeLine ∧ Nx (upd H4 D (.lst (acc ++ [y]))) else Nx H3) := by
  refine ⟨fun i m H => m = x.cps.size - i ∧ i ≤ x.cps.size ∧ Pv i H, ⟨x.cps.size, by simp, Nat.zero_le _, h0⟩, ?_⟩
  rintro i m H ⟨rfl, hi, p⟩
  by_cases hlt : i < x.cps.size
  · refine .inr ⟨hlt, Pv (i + 1), fun H' p' => ⟨x.cps.size - (i + 1), by omega, rfl, hlt, p'⟩, fun v H' y => ?_⟩
    obtain ⟨e1, c, e2, e3⟩ := y
    subst e1 e3
    exact hs i c _ e2 p
  · have e : i = x.cps.size := by omega
    subst e
    exact .inl ⟨Nat.le_refl _, hd H p⟩
/-! ### list(d.values()) -/
section
variable {X : Cx}
end
end L2

end

section
set_option Elab.async false
/-! The mathematics of reading a mesh's text: the program's reading against the specification's. Plain Lean. -/
namespace MM
open Bead

/-- some number up to g that is not taken is v, or has v's digits in front (as deep as j digits more) -/
def beg (g : Nat) (tk : List Nat) : Nat → Nat → Bool
  | 0, v => decide (v ≤ g) && !tk.contains v
  | j + 1, v => decide (v ≤ g) && (!tk.contains v || (decide (0 < v) && (List.range 10).any fun d => beg g tk j (10 * v + d)))

/-- the program's begins_number -/
def begins (g : Nat) (tk : List Nat) (v : Nat) : Bool := beg g tk 5 v
theorem begins_le {g : Nat} {tk : List Nat} {v : Nat} (h : begins g tk v = true) : v ≤ g := by
  unfold begins beg at h
  simp only [Bool.and_eq_true, decide_eq_true_eq] at h
  exact h.1

theorem begins_free (g v : Nat) : begins g [] v = decide (v ≤ g) := by
  unfold begins beg
  simp

/-- the specification's test of a triangle's corner, as far as it has been read -/
theorem begins_other (n : Nat) (tk : List Nat) (hn : 0 < n) (hn2 : n ≤ 64) (v : Nat) :
    begins (n - 1) tk v = ((List.range n).any fun (w : Nat) => !tk.contains w && (w == v || (v != 0 && w / 10 == v))) := by
  have big : ∀ j u, 10 ≤ u → beg (n - 1) tk j u = (decide (u ≤ n - 1) && !tk.contains u) := by
    intro j u hu
    cases j with
    | zero => rfl
    | succ j =>
      have e : beg (n - 1) tk (j + 1) u = (decide (u ≤ n - 1) && (!tk.contains u || (decide (0 < u) && (List.range 10).any fun d => beg (n - 1) tk j (10 * u + d)))) := rfl
      rw [e]
      have q : ((List.range 10).any fun d => beg (n - 1) tk j (10 * u + d)) = false := by
        rw [List.any_eq_false]
        intro d _
        have : ¬ 10 * u + d ≤ n - 1 := by omega
        cases j <;> simp [beg, this]
      rw [q]
      simp
  unfold begins
  have e : beg (n - 1) tk 5 v = (decide (v ≤ n - 1) && (!tk.contains v || (decide (0 < v) && (List.range 10).any fun d => beg (n - 1) tk 4 (10 * v + d)))) := rfl
  rw [e, Bool.eq_iff_iff]
  simp only [Bool.and_eq_true, Bool.or_eq_true, decide_eq_true_eq, List.any_eq_true, List.mem_range, Bool.not_eq_true', bne_iff_ne, beq_iff_eq]
  constructor
  · rintro ⟨h1, h2 | ⟨h2, d, hd, h3⟩⟩
    · exact ⟨v, by omega, h2, .inl rfl⟩
    · rw [big 4 _ (by omega)] at h3
      simp only [Bool.and_eq_true, decide_eq_true_eq, Bool.not_eq_true'] at h3
      exact ⟨10 * v + d, by omega, h3.2, .inr ⟨by omega, by omega⟩⟩
  · rintro ⟨w, hw, ht, rfl | ⟨h0, hd⟩⟩
    · exact ⟨by omega, .inl ht⟩
    · refine ⟨by omega, .inr ⟨by omega, w - 10 * v, by omega, ?_⟩⟩
      rw [big 4 _ (by omega)]
      have : 10 * v + (w - 10 * v) = w := by omega
      rw [this, ht]
      simp
      omega

/-- a number read by the program's tests -/
def numIn (g : Nat) (tk : List Nat) (p : Nat) (b : Bytes) : In Nat := numberIn (begins g tk) (fun v => decide (v ≤ g) && !tk.contains v) p b
theorem upTo_num (p : Nat) (b : Bytes) : upToIn FAR p b = numIn 65535 [] p b := by
  unfold upToIn numIn
  congr 1
  · funext v
    rw [begins_free]
    rfl
  · funext v
    simp only [FAR, List.contains_nil, Bool.not_false, Bool.and_true]
    rfl
theorem other_num (n : Nat) (tk : List Nat) (hn : 0 < n) (hn2 : n ≤ 64) (p : Nat) (b : Bytes) : otherIn n tk p b = numIn (n - 1) tk p b := by
  unfold otherIn numIn
  congr 1
  · funext v
    rw [begins_other n tk hn hn2]
  · funext v
    have : decide (v < n) = decide (v ≤ n - 1) := by
      rw [decide_eq_decide]
      omega
    rw [this]

/-! ### a number, figure by figure -/
/-- the value read so far v, the place q behind it, f figures more at most -/
def fin (g : Nat) (tk : List Nat) (q f v : Nat) (b : Bytes) : In Nat :=
  let x := figures (begins g tk) f v b
  if (decide (x.1 ≤ g) && !tk.contains x.1) = true then .ok (x.1, q + x.2.1, x.2.2) else .error (q + x.2.1)
theorem num_nil {g : Nat} {tk : List Nat} {p : Nat} : numIn g tk p [] = .error p := rfl
theorem num_bad {g : Nat} {tk : List Nat} {p : Nat} {c : UInt8} {r : Bytes} (h : ¬ (isDigit c = true ∧ begins g tk (c.toNat - 48) = true)) : numIn g tk p (c :: r) = .error p := by
  unfold numIn numberIn
  show (if _ then _ else _) = _
  rw [if_neg h]
theorem num_first {g : Nat} {tk : List Nat} {p : Nat} {c : UInt8} {r : Bytes} (h1 : isDigit c = true) (h2 : begins g tk (c.toNat - 48) = true) :
    numIn g tk p (c :: r) = fin g tk (p + 1) 8 (c.toNat - 48) r := by
  unfold numIn numberIn
  show (if _ then _ else _) = _
  rw [if_pos (And.intro h1 h2)]
  rfl
theorem fin_step {g : Nat} {tk : List Nat} {q f v : Nat} {c : UInt8} {r : Bytes} (h1 : isDigit c = true) (hv : v ≠ 0) (h2 : begins g tk (10 * v + (c.toNat - 48)) = true) (hf : g < v * 10 ^ f) :
    ∃ f', f = f' + 1 ∧ fin g tk q f v (c :: r) = fin g tk (q + 1) f' (10 * v + (c.toNat - 48)) r := by
  cases f with
  | zero =>
    have := begins_le h2
    omega
  | succ f' =>
    refine ⟨f', rfl, ?_⟩
    have e : figures (begins g tk) (f' + 1) v (c :: r) = (let x := figures (begins g tk) f' (10 * v + (c.toNat - 48)) r; (x.1, x.2.1 + 1, x.2.2)) := by
      show (if _ then _ else _) = _
      rw [if_pos ⟨h1, hv, h2⟩]
    unfold fin
    rw [e]
    simp only [Nat.add_assoc, Nat.add_comm 1]
theorem fin_stop {g : Nat} {tk : List Nat} {q f v : Nat} {b : Bytes} (h : ∀ c r, b = c :: r → ¬ (isDigit c = true ∧ v ≠ 0 ∧ begins g tk (10 * v + (c.toNat - 48)) = true)) :
    fin g tk q f v b = if (decide (v ≤ g) && !tk.contains v) = true then .ok (v, q, b) else .error q := by
  have e : figures (begins g tk) f v b = (v, 0, b) := by
    cases f with
    | zero => cases b <;> rfl
    | succ f =>
      cases b with
      | nil => rfl
      | cons c r =>
        show (if _ then _ else _) = _
        rw [if_neg (h c r rfl)]
  unfold fin
  rw [e]
  rfl

/-! ### a line, number by number -/
/-- k numbers more, each behind a blank, then the line's end; ns are read -/
def numsIn (num : List Nat → Nat → Bytes → In Nat) : Nat → List Nat → Nat → Bytes → In (List Nat)
  | 0, ns, p, b => match byteIn 10 p b with
    | .error e => .error e
    | .ok (_, q, r) => .ok (ns, q, r)
  | k + 1, ns, p, b => match byteIn 32 p b with
    | .error e => .error e
    | .ok (_, q, r) => match num ns q r with
      | .error e => .error e
      | .ok (v, q', r') => numsIn num k (ns ++ [v]) q' r'
def cornerOf : List Nat → Corner
  | [x, y, z] => ⟨x, y, z⟩
  | _ => ⟨0, 0, 0⟩
def faceOf : List Nat → Face
  | [x, y, z] => ⟨x, y, z⟩
  | _ => ⟨0, 0, 0⟩
def mapIn {α β : Type} (f : α → β) : In α → In β
  | .error e => .error e
  | .ok (a, q, r) => .ok (f a, q, r)
theorem corner_nums (p : Nat) (b : Bytes) : cornerIn p b = mapIn cornerOf (numsIn (fun _ => numIn 65535 []) 3 [] p b) := by
  unfold cornerIn
  simp only [upTo_num, numsIn, bind, Except.bind, pure, Except.pure]
  cases byteIn 32 p b with
  | error e => rfl
  | ok x =>
    obtain ⟨_, p1, b1⟩ := x
    dsimp only
    cases numIn 65535 [] p1 b1 with
    | error e => rfl
    | ok x =>
      obtain ⟨v1, p2, b2⟩ := x
      dsimp only
      cases byteIn 32 p2 b2 with
      | error e => rfl
      | ok x =>
        obtain ⟨_, p3, b3⟩ := x
        dsimp only
        cases numIn 65535 [] p3 b3 with
        | error e => rfl
        | ok x =>
          obtain ⟨v2, p4, b4⟩ := x
          dsimp only
          cases byteIn 32 p4 b4 with
          | error e => rfl
          | ok x =>
            obtain ⟨_, p5, b5⟩ := x
            dsimp only
            cases numIn 65535 [] p5 b5 with
            | error e => rfl
            | ok x =>
              obtain ⟨v3, p6, b6⟩ := x
              dsimp only
              cases byteIn 10 p6 b6 with
              | error e => rfl
              | ok x => rfl
theorem face_nums (n : Nat) (hn : 0 < n) (hn2 : n ≤ 64) (p : Nat) (b : Bytes) : faceIn n p b = mapIn faceOf (numsIn (fun ns => numIn (n - 1) ns) 3 [] p b) := by
  unfold faceIn
  simp only [other_num n _ hn hn2, numsIn, bind, Except.bind, pure, Except.pure]
  cases byteIn 32 p b with
  | error e => rfl
  | ok x =>
    obtain ⟨_, p1, b1⟩ := x
    dsimp only
    cases numIn (n - 1) [] p1 b1 with
    | error e => rfl
    | ok x =>
      obtain ⟨v1, p2, b2⟩ := x
      dsimp only
      cases byteIn 32 p2 b2 with
      | error e => rfl
      | ok x =>
        obtain ⟨_, p3, b3⟩ := x
        dsimp only
        have e1 : ([] ++ [v1] : List Nat) = [v1] := rfl
        rw [e1]
        cases numIn (n - 1) [v1] p3 b3 with
        | error e => rfl
        | ok x =>
          obtain ⟨v2, p4, b4⟩ := x
          dsimp only
          cases byteIn 32 p4 b4 with
          | error e => rfl
          | ok x =>
            obtain ⟨_, p5, b5⟩ := x
            dsimp only
            have e2 : ([v1] ++ [v2] : List Nat) = [v1, v2] := rfl
            rw [e2]
            cases numIn (n - 1) [v1, v2] p5 b5 with
            | error e => rfl
            | ok x =>
              obtain ⟨v3, p6, b6⟩ := x
              dsimp only
              cases byteIn 10 p6 b6 with
              | error e => rfl
              | ok x => rfl

/-! ### bytes by places -/
theorem drop_at {b : Bytes} {p : Nat} {c : UInt8} (h : b[p]? = some c) : b.drop p = c :: b.drop (p + 1) := by
  obtain ⟨h1, h2⟩ := List.getElem?_eq_some_iff.mp h
  rw [List.drop_eq_getElem_cons h1, h2]
theorem drop_end {b : Bytes} {p : Nat} (h : b[p]? = none) : b.drop p = [] := List.drop_eq_nil_of_le (List.getElem?_eq_none_iff.mp h)
theorem byte_ok {b : Bytes} {p : Nat} {c : UInt8} (h : b[p]? = some c) : byteIn c p (b.drop p) = .ok ((), p + 1, b.drop (p + 1)) := by
  rw [drop_at h]
  show (if c = c then (Except.ok ((), p + 1, b.drop (p + 1)) : In Unit) else .error p) = _
  rw [if_pos rfl]
theorem byte_bad {b : Bytes} {p : Nat} {c : UInt8} (h : b[p]? ≠ some c) : byteIn c p (b.drop p) = .error p := by
  cases e : b[p]? with
  | none =>
    rw [drop_end e]
    rfl
  | some d =>
    rw [drop_at e]
    show (if d = c then (Except.ok ((), p + 1, b.drop (p + 1)) : In Unit) else .error p) = _
    rw [if_neg fun q => h (by rw [e, q])]

/-! ### the lines of a mesh -/
theorem mesh_end {f p : Nat} {cs : List Corner} {fs : List Face} : meshFrom (f + 1) p cs fs [] = .ok ⟨cs.reverse, fs.reverse⟩ := rfl
theorem mesh_v_err {f p e : Nat} {cs : List Corner} {r : Bytes} (h : cs.length < 64) (hc : cornerIn (p + 1) r = .error e) : meshFrom (f + 1) p cs [] (118 :: r) = .error e := by
  have c : (118 : UInt8) = 118 ∧ ([] : List Face) = [] ∧ cs.length < CORNERS := ⟨rfl, rfl, h⟩
  show (if (118 : UInt8) = 118 ∧ ([] : List Face) = [] ∧ cs.length < CORNERS then _ else _) = _
  rw [if_pos c, hc]
theorem mesh_v_ok {f p q : Nat} {cs : List Corner} {r s : Bytes} {v : Corner} (h : cs.length < 64) (hc : cornerIn (p + 1) r = .ok (v, q, s)) : meshFrom (f + 1) p cs [] (118 :: r) = meshFrom f q (v :: cs) [] s := by
  have c : (118 : UInt8) = 118 ∧ ([] : List Face) = [] ∧ cs.length < CORNERS := ⟨rfl, rfl, h⟩
  show (if (118 : UInt8) = 118 ∧ ([] : List Face) = [] ∧ cs.length < CORNERS then _ else _) = _
  rw [if_pos c, hc]
theorem mesh_t_err {f p e : Nat} {cs : List Corner} {fs : List Face} {c : UInt8} {r : Bytes} (e0 : c = 116) (h : 3 ≤ cs.length) (h2 : fs.length < 128) (hc : faceIn cs.length (p + 1) r = .error e) : meshFrom (f + 1) p cs fs (c :: r) = .error e := by
  have c1 : ¬ (c = 118 ∧ fs = [] ∧ cs.length < CORNERS) := fun q => absurd (e0.symm.trans q.1) (by decide)
  have c2 : c = 116 ∧ 3 ≤ cs.length ∧ fs.length < FACES := ⟨e0, h, h2⟩
  show (if c = 118 ∧ fs = [] ∧ cs.length < CORNERS then _ else if c = 116 ∧ 3 ≤ cs.length ∧ fs.length < FACES then _ else _) = _
  rw [if_neg c1, if_pos c2, hc]
theorem mesh_t_ok {f p q : Nat} {cs : List Corner} {fs : List Face} {c : UInt8} {r s : Bytes} {v : Face} (e0 : c = 116) (h : 3 ≤ cs.length) (h2 : fs.length < 128) (hc : faceIn cs.length (p + 1) r = .ok (v, q, s)) : meshFrom (f + 1) p cs fs (c :: r) = meshFrom f q cs (v :: fs) s := by
  have c1 : ¬ (c = 118 ∧ fs = [] ∧ cs.length < CORNERS) := fun q => absurd (e0.symm.trans q.1) (by decide)
  have c2 : c = 116 ∧ 3 ≤ cs.length ∧ fs.length < FACES := ⟨e0, h, h2⟩
  show (if c = 118 ∧ fs = [] ∧ cs.length < CORNERS then _ else if c = 116 ∧ 3 ≤ cs.length ∧ fs.length < FACES then _ else _) = _
  rw [if_neg c1, if_pos c2, hc]
theorem mesh_bad {f p : Nat} {cs : List Corner} {fs : List Face} {c : UInt8} {r : Bytes} (h1 : ¬ (c = 118 ∧ fs = [] ∧ cs.length < 64)) (h2 : ¬ (c = 116 ∧ 3 ≤ cs.length ∧ fs.length < 128)) :
    meshFrom (f + 1) p cs fs (c :: r) = .error p := by
  have c1 : ¬ (c = 118 ∧ fs = [] ∧ cs.length < CORNERS) := h1
  have c2 : ¬ (c = 116 ∧ 3 ≤ cs.length ∧ fs.length < FACES) := h2
  show (if c = 118 ∧ fs = [] ∧ cs.length < CORNERS then _ else if c = 116 ∧ 3 ≤ cs.length ∧ fs.length < FACES then _ else _) = _
  rw [if_neg c1, if_neg c2]

/-! ### reading goes forward -/
end MM

end

section
set_option Elab.async false
/-! What holds of a mesh that has been read; the first open side by counting. Plain Lean. -/
namespace MM
open Bead

structure CornerOk (v : Corner) : Prop where
  x : v.x ≤ 65535
  y : v.y ≤ 65535
  z : v.z ≤ 65535
structure FaceOk (n : Nat) (f : Face) : Prop where
  a : f.a < n
  b : f.b < n
  c : f.c < n
  ab : f.a ≠ f.b
  ac : f.a ≠ f.c
  bc : f.b ≠ f.c
structure MeshOk (M : Mesh) : Prop where
  cl : M.corners.length ≤ 64
  fl : M.faces.length ≤ 128
  cs : ∀ v ∈ M.corners, CornerOk v
  fs : ∀ f ∈ M.faces, FaceOk M.corners.length f

theorem number_may {goes may : Nat → Bool} {p : Nat} {b : Bytes} {v q : Nat} {r : Bytes} (h : numberIn goes may p b = .ok (v, q, r)) : may v = true := by
  unfold numberIn at h
  split at h
  · cases h
  · split at h
    · dsimp only at h
      split at h
      · rename_i hm
        injection h with h
        injection h with h1 h2
        rw [← h1]
        exact hm
      · cases h
    · cases h
theorem upTo_le {p : Nat} {b : Bytes} {v q : Nat} {r : Bytes} (h : upToIn FAR p b = .ok (v, q, r)) : v ≤ 65535 := by
  have t : decide (v ≤ 65535) = true := number_may h
  exact of_decide_eq_true t
theorem other_ok {n : Nat} {tk : List Nat} {p : Nat} {b : Bytes} {v q : Nat} {r : Bytes} (h : otherIn n tk p b = .ok (v, q, r)) : v < n ∧ v ∉ tk := by
  have := number_may h
  simpa using this
theorem corner_ok {p : Nat} {b : Bytes} {v : Corner} {q : Nat} {r : Bytes} (h : cornerIn p b = .ok (v, q, r)) : CornerOk v := by
  unfold cornerIn at h
  simp only [bind, Except.bind, pure, Except.pure] at h
  cases e1 : byteIn 32 p b with
  | error e => rw [e1] at h; cases h
  | ok x1 =>
    obtain ⟨_, p1, b1⟩ := x1
    rw [e1] at h
    dsimp only at h
    cases e2 : upToIn FAR p1 b1 with
    | error e => rw [e2] at h; cases h
    | ok x2 =>
      obtain ⟨v1, p2, b2⟩ := x2
      rw [e2] at h
      dsimp only at h
      cases e3 : byteIn 32 p2 b2 with
      | error e => rw [e3] at h; cases h
      | ok x3 =>
        obtain ⟨_, p3, b3⟩ := x3
        rw [e3] at h
        dsimp only at h
        cases e4 : upToIn FAR p3 b3 with
        | error e => rw [e4] at h; cases h
        | ok x4 =>
          obtain ⟨v2, p4, b4⟩ := x4
          rw [e4] at h
          dsimp only at h
          cases e5 : byteIn 32 p4 b4 with
          | error e => rw [e5] at h; cases h
          | ok x5 =>
            obtain ⟨_, p5, b5⟩ := x5
            rw [e5] at h
            dsimp only at h
            cases e6 : upToIn FAR p5 b5 with
            | error e => rw [e6] at h; cases h
            | ok x6 =>
              obtain ⟨v3, p6, b6⟩ := x6
              rw [e6] at h
              dsimp only at h
              cases e7 : byteIn 10 p6 b6 with
              | error e => rw [e7] at h; cases h
              | ok x7 =>
                obtain ⟨_, p7, b7⟩ := x7
                rw [e7] at h
                dsimp only at h
                injection h with h
                injection h with h1 h2
                rw [← h1]
                exact ⟨upTo_le e2, upTo_le e4, upTo_le e6⟩
theorem face_ok {n p : Nat} {b : Bytes} {v : Face} {q : Nat} {r : Bytes} (h : faceIn n p b = .ok (v, q, r)) : FaceOk n v := by
  unfold faceIn at h
  simp only [bind, Except.bind, pure, Except.pure] at h
  cases e1 : byteIn 32 p b with
  | error e => rw [e1] at h; cases h
  | ok x1 =>
    obtain ⟨_, p1, b1⟩ := x1
    rw [e1] at h
    dsimp only at h
    cases e2 : otherIn n [] p1 b1 with
    | error e => rw [e2] at h; cases h
    | ok x2 =>
      obtain ⟨v1, p2, b2⟩ := x2
      rw [e2] at h
      dsimp only at h
      cases e3 : byteIn 32 p2 b2 with
      | error e => rw [e3] at h; cases h
      | ok x3 =>
        obtain ⟨_, p3, b3⟩ := x3
        rw [e3] at h
        dsimp only at h
        cases e4 : otherIn n [v1] p3 b3 with
        | error e => rw [e4] at h; cases h
        | ok x4 =>
          obtain ⟨v2, p4, b4⟩ := x4
          rw [e4] at h
          dsimp only at h
          cases e5 : byteIn 32 p4 b4 with
          | error e => rw [e5] at h; cases h
          | ok x5 =>
            obtain ⟨_, p5, b5⟩ := x5
            rw [e5] at h
            dsimp only at h
            cases e6 : otherIn n [v1, v2] p5 b5 with
            | error e => rw [e6] at h; cases h
            | ok x6 =>
              obtain ⟨v3, p6, b6⟩ := x6
              rw [e6] at h
              dsimp only at h
              cases e7 : byteIn 10 p6 b6 with
              | error e => rw [e7] at h; cases h
              | ok x7 =>
                obtain ⟨_, p7, b7⟩ := x7
                rw [e7] at h
                dsimp only at h
                injection h with h
                injection h with h1 h2
                rw [← h1]
                have a1 := other_ok e2
                have a2 := other_ok e4
                have a3 := other_ok e6
                simp only [List.mem_cons, List.not_mem_nil, or_false, not_or] at a2 a3
                exact ⟨a1.1, a2.1, a3.1, fun z => a2.2 z.symm, fun z => a3.2.1 z.symm, fun z => a3.2.2 z.symm⟩
theorem from_ok : ∀ (f p : Nat) (cs : List Corner) (fs : List Face) (b : Bytes) (M : Mesh), meshFrom f p cs fs b = .ok M → cs.length ≤ 64 → fs.length ≤ 128 → (∀ v ∈ cs, CornerOk v) → (∀ x ∈ fs, FaceOk cs.length x) → MeshOk M
  | 0, p, cs, fs, b, M, h, _, _, _, _ => by cases h
  | f + 1, p, cs, fs, [], M, h, h1, h2, h3, h4 => by
    have e : M = ⟨cs.reverse, fs.reverse⟩ := by
      injection h with h
      exact h.symm
    subst e
    refine ⟨by simpa using h1, by simpa using h2, fun v hv => h3 v (by simpa using hv), fun x hx => ?_⟩
    have := h4 x (by simpa using hx)
    simpa using this
  | f + 1, p, cs, fs, c :: r, M, h, h1, h2, h3, h4 => by
    by_cases c1 : c = 118 ∧ fs = [] ∧ cs.length < 64
    · obtain ⟨rfl, rfl, hl⟩ := c1
      cases ev : cornerIn (p + 1) r with
      | error e =>
        rw [mesh_v_err hl ev] at h
        cases h
      | ok x =>
        obtain ⟨v, q, s⟩ := x
        rw [mesh_v_ok hl ev] at h
        refine from_ok f q (v :: cs) [] s M h (by rw [List.length_cons]; omega) (Nat.zero_le _) (fun u hu => ?_) (fun x hx => by cases hx)
        rcases List.mem_cons.mp hu with z | z
        · rw [z]
          exact corner_ok ev
        · exact h3 u z
    · by_cases c2 : c = 116 ∧ 3 ≤ cs.length ∧ fs.length < 128
      · obtain ⟨e0, hl, hf⟩ := c2
        cases ev : faceIn cs.length (p + 1) r with
        | error e =>
          rw [mesh_t_err e0 hl hf ev] at h
          cases h
        | ok x =>
          obtain ⟨v, q, s⟩ := x
          rw [mesh_t_ok e0 hl hf ev] at h
          refine from_ok f q cs (v :: fs) s M h h1 (by rw [List.length_cons]; omega) h3 (fun x hx => ?_)
          rcases List.mem_cons.mp hx with z | z
          · rw [z]
            exact face_ok ev
          · exact h4 x z
      · rw [mesh_bad c1 c2] at h
        cases h
theorem read_ok {B : Bytes} {M : Mesh} (h : readMesh B = .ok M) : MeshOk M :=
  from_ok _ _ _ _ _ _ h (Nat.zero_le _) (Nat.zero_le _) (fun v hv => by cases hv) (fun x hx => by cases hx)

/-! ### least and most -/
/-! ### sides -/
end MM

end

section
set_option Elab.async false
set_option linter.all false
/-! What the specification's spread leads to: the cells that are reached. Plain Lean. -/
namespace FM
open Bead

/-! ### neighbours -/
/-! ### the rounds -/
end FM

end

section
set_option Elab.async false
set_option linter.all false
/-! Pieces by their least cells. Plain Lean. -/
namespace FM
open Bead

/-! ### from one cell to another -/
/-! ### pieces -/
end FM

end

section
set_option Elab.async false
set_option linter.all false
/-! A body's bytes, judged and told. Plain Lean. -/
namespace BM
open Bead

/-! ### filled -/
end BM

end

section
set_option Elab.async false
set_option linter.all false
/-! Near by q: grown and shrunk; numbers in tens. Plain Lean. -/
namespace BM
open Bead

/-! ### numbers in tens -/
def sign (d : Nat) : UInt8 := UInt8.ofNat (48 + d)
theorem digit_sign : ∀ d, d < 10 → UInt8.ofNat (Nat.digitChar d).toNat = sign d := by decide
theorem dec_small {n : Nat} (h : n < 10) : dec n = [sign n] := by
  unfold dec
  rw [Nat.toDigits_of_lt_base h, List.map_cons, digit_sign n h]
  rfl
theorem dec_big {n : Nat} (h : 10 ≤ n) : dec n = dec (n / 10) ++ [sign (n % 10)] := by
  unfold dec
  have e := Nat.toDigits_append_toDigits (b := 10) (n := n / 10) (d := n % 10) (by decide) (by omega) (Nat.mod_lt _ (by decide))
  rw [show 10 * (n / 10) + n % 10 = n by omega] at e
  rw [← e, List.map_append, Nat.toDigits_of_lt_base (Nat.mod_lt _ (by decide))]
  rw [List.map_cons, digit_sign _ (Nat.mod_lt _ (by decide))]
  rfl
end BM

end

section
set_option Elab.async false
set_option linter.all false
/-! A body's bytes as the program reads and packs them. Plain Lean. -/
namespace BM
open Bead

/-! ### packed -/
/-! ### places as whole numbers -/
end BM
namespace BM
open Bead
end BM

end

section
set_option Elab.async false
set_option linter.all false
/-! Drawings of layers. Plain Lean. -/
namespace BM
open Bead
end BM

end

section
set_option Elab.async false
set_option linter.all false
/-! Bodies grown and shrunk, as the program finds them: over the places of and round a layer. Plain Lean. -/
namespace BM
open Bead
end BM

end

section
set_option Elab.async false
set_option linter.all false
/-! Regions as the program finds them, and what they are. Plain Lean. -/
namespace RM
open Bead FM
/-! ### pieces -/
/-! ### neighbours as the program finds them -/
end RM
namespace RM
open Bead FM
end RM
namespace RM
open Bead FM
end RM

end

section
set_option Elab.async false
set_option linter.all false
/-! A mesh's text by lines; bounds; meshes put together and turned. Plain Lean. -/
namespace MM
open Bead
theorem dec_len {n : Nat} (h : n < 100000) : (dec n).length ≤ 5 := by
  have step : ∀ m k, (10 ≤ m → (dec (m / 10)).length ≤ k) → (dec m).length ≤ k + 1 := fun m k hk => by
    by_cases z : m < 10
    · rw [BM.dec_small z]
      simp
    · rw [BM.dec_big (by omega), List.length_append]
      have := hk (by omega)
      show _ + 1 ≤ k + 1
      omega
  refine step n 4 fun _ => step _ 3 fun _ => step _ 2 fun _ => step _ 1 fun _ => step _ 0 fun _ => ?_
  omega
/-- the letter, then numbers with blanks ahead of them, then the line's end -/
def lineB (c : UInt8) (xs : List Nat) : Bytes := c :: (xs.flatMap fun n => 32 :: dec n) ++ [10]
theorem corner_line (xs : List Nat) (h : xs.length = 3) : (cornerOf xs).text = lineB 118 xs := by
  match xs, h with
  | [a, b, c], _ =>
    show [118, 32] ++ (dec a ++ ([32] ++ (dec b ++ ([32] ++ (dec c ++ [10]))))) = _
    unfold lineB
    simp
theorem face_line (xs : List Nat) (h : xs.length = 3) : (faceOf xs).text = lineB 116 xs := by
  match xs, h with
  | [a, b, c], _ =>
    show [116, 32] ++ (dec a ++ ([32] ++ (dec b ++ ([32] ++ (dec c ++ [10]))))) = _
    unfold lineB
    simp
theorem line_len {c : UInt8} {xs : List Nat} (h : xs.length = 3) (hb : ∀ n ∈ xs, n < 100000) : (lineB c xs).length ≤ 20 := by
  match xs, h with
  | [x, y, z], _ =>
    have h1 := dec_len (hb x (by simp))
    have h2 := dec_len (hb y (by simp))
    have h3 := dec_len (hb z (by simp))
    unfold lineB
    simp
    omega
theorem text_lines (cs fs : List (List Nat)) (hc : ∀ x ∈ cs, x.length = 3) (hf : ∀ x ∈ fs, x.length = 3) : (⟨cs.map cornerOf, fs.map faceOf⟩ : Mesh).text = (cs.map (lineB 118) ++ fs.map (lineB 116)).flatten := by
  unfold Mesh.text
  rw [List.flatten_append]
  congr 1
  · rw [List.flatMap_def, List.map_map]
    congr 1
    exact List.map_congr_left fun x hx => corner_line x (hc x hx)
  · rw [List.flatMap_def, List.map_map]
    congr 1
    exact List.map_congr_left fun x hx => face_line x (hf x hx)
theorem flat_len {ls : List Bytes} {k : Nat} (h : ∀ l ∈ ls, l.length ≤ k) : ls.flatten.length ≤ ls.length * k := by
  induction ls with
  | nil => simp
  | cons l ls ih =>
    rw [List.flatten_cons, List.length_append, List.length_cons, Nat.succ_mul]
    have := h l (by simp)
    have := ih fun m hm => h m (by simp [hm])
    omega
end MM
namespace MM
open Bead
theorem corner_bound {cs : List (List Nat)} (h : ∀ v ∈ cs.map cornerOf, CornerOk v) (h3 : ∀ x ∈ cs, x.length = 3) : ∀ x ∈ cs, ∀ n ∈ x, n ≤ 65535 := by
  intro x hx n hn
  have h1 := h _ (List.mem_map.mpr ⟨x, hx, rfl⟩)
  match x, h3 x hx, hn, h1 with
  | [a, b, c], _, hn, h1 =>
    simp only [List.mem_cons, List.not_mem_nil, or_false] at hn
    rcases hn with rfl | rfl | rfl
    · exact h1.x
    · exact h1.y
    · exact h1.z
theorem face_bound {fs : List (List Nat)} {k : Nat} (h : ∀ f ∈ fs.map faceOf, FaceOk k f) (h3 : ∀ x ∈ fs, x.length = 3) : ∀ x ∈ fs, ∀ n ∈ x, n < k := by
  intro x hx n hn
  have h1 := h _ (List.mem_map.mpr ⟨x, hx, rfl⟩)
  match x, h3 x hx, hn, h1 with
  | [a, b, c], _, hn, h1 =>
    simp only [List.mem_cons, List.not_mem_nil, or_false] at hn
    rcases hn with rfl | rfl | rfl
    · exact h1.a
    · exact h1.b
    · exact h1.c
theorem log_small {n : Nat} (h : n < 100000) : n.log2 < 1920 := by
  by_cases z : n = 0
  · subst z
    decide
  · exact Nat.lt_of_lt_of_le ((Nat.log2_lt z).mpr (Nat.lt_of_lt_of_le h (by decide : 100000 ≤ 2 ^ 20))) (by decide)
end MM
namespace MM
open Bead
def tX : List Nat → List Nat
  | [a, b, c] => [a, 65535 - c, b]
  | l => l
def tY : List Nat → List Nat
  | [a, b, c] => [c, b, 65535 - a]
  | l => l
def tZ : List Nat → List Nat
  | [a, b, c] => [65535 - b, a, c]
  | l => l
def iter (f : List Nat → List Nat) : Nat → List Nat → List Nat
  | 0, l => l
  | n + 1, l => f (iter f n l)
/-- three numbers up to 65535 -/
structure Pt3 (x : List Nat) : Prop where
  len : x.length = 3
  le : ∀ n ∈ x, n ≤ 65535
theorem Pt3.ex {x : List Nat} (h : Pt3 x) : ∃ a b c, x = [a, b, c] ∧ a ≤ 65535 ∧ b ≤ 65535 ∧ c ≤ 65535 := by
  match x, h.len, h.le with
  | [a, b, c], _, hl => exact ⟨a, b, c, rfl, hl a (by simp), hl b (by simp), hl c (by simp)⟩
theorem pt3 {a b c : Nat} (ha : a ≤ 65535) (hb : b ≤ 65535) (hc : c ≤ 65535) : Pt3 [a, b, c] := ⟨rfl, fun n hn => by
  simp only [List.mem_cons, List.not_mem_nil, or_false] at hn
  omega⟩
theorem pt_X {x : List Nat} (h : Pt3 x) : Pt3 (tX x) ∧ cornerOf (tX x) = tipX (cornerOf x) := by
  obtain ⟨a, b, c, rfl, h1, h2, h3⟩ := h.ex
  exact ⟨pt3 h1 (by omega) h2, rfl⟩
theorem pt_Y {x : List Nat} (h : Pt3 x) : Pt3 (tY x) ∧ cornerOf (tY x) = tipY (cornerOf x) := by
  obtain ⟨a, b, c, rfl, h1, h2, h3⟩ := h.ex
  exact ⟨pt3 h3 h2 (by omega), rfl⟩
theorem pt_Z {x : List Nat} (h : Pt3 x) : Pt3 (tZ x) ∧ cornerOf (tZ x) = spin (cornerOf x) := by
  obtain ⟨a, b, c, rfl, h1, h2, h3⟩ := h.ex
  exact ⟨pt3 (by omega) h1 h3, rfl⟩
theorem again_last (f : Corner → Corner) : ∀ (n : Nat) (v : Corner), again f (n + 1) v = f (again f n v)
  | 0, _ => rfl
  | n + 1, v => again_last f n (f v)
theorem iter_is {f : List Nat → List Nat} {g : Corner → Corner} (h : ∀ x, Pt3 x → Pt3 (f x) ∧ cornerOf (f x) = g (cornerOf x)) {x : List Nat} (hx : Pt3 x) : ∀ n, Pt3 (iter f n x) ∧ cornerOf (iter f n x) = again g n (cornerOf x)
  | 0 => ⟨hx, rfl⟩
  | n + 1 => by
    obtain ⟨h1, h2⟩ := iter_is h hx n
    obtain ⟨h3, h4⟩ := h _ h1
    exact ⟨h3, by rw [again_last, ← h2]; exact h4⟩
def timesX (q : Nat) : Nat := [0, 1, 2, 3, 0, 0].getD q 0
def timesY (q : Nat) : Nat := [0, 0, 0, 0, 1, 3].getD q 0
def turnL (k : Nat) (x : List Nat) : List Nat := iter tZ (k % 4) (iter tY (timesY (k / 4)) (iter tX (timesX (k / 4)) x))
theorem turn_is {k : Nat} (hk : k < 24) {x : List Nat} (hx : Pt3 x) : Pt3 (turnL k x) ∧ cornerOf (turnL k x) = Corner.turned k (cornerOf x) := by
  obtain ⟨a1, a2⟩ := iter_is (fun x h => pt_X h) hx (timesX (k / 4))
  obtain ⟨b1, b2⟩ := iter_is (fun x h => pt_Y h) a1 (timesY (k / 4))
  obtain ⟨c1, c2⟩ := iter_is (fun x h => pt_Z h) b1 (k % 4)
  refine ⟨c1, ?_⟩
  unfold turnL Corner.turned
  rw [c2, b2, a2]
  congr 1
  have hq : k / 4 < 6 := by omega
  generalize k / 4 = q at hq
  match q, hq with
  | 0, _ => rfl
  | 1, _ => rfl
  | 2, _ => rfl
  | 3, _ => rfl
  | 4, _ => rfl
  | 5, _ => rfl
theorem times_at {q : Nat} (h : q < 6) : ([0, 1, 2, 3, 0, 0] : List Int)[q]? = some (timesX q : Int) ∧ ([0, 0, 0, 0, 1, 3] : List Int)[q]? = some (timesY q : Int) ∧ timesX q ≤ 3 ∧ timesY q ≤ 3 := by
  match q, h with
  | 0, _ => exact ⟨rfl, rfl, by decide, by decide⟩
  | 1, _ => exact ⟨rfl, rfl, by decide, by decide⟩
  | 2, _ => exact ⟨rfl, rfl, by decide, by decide⟩
  | 3, _ => exact ⟨rfl, rfl, by decide, by decide⟩
  | 4, _ => exact ⟨rfl, rfl, by decide, by decide⟩
  | 5, _ => exact ⟨rfl, rfl, by decide, by decide⟩
end MM

end

section
set_option Elab.async false
set_option linter.all false
/-! Rays and triangles, as the program reckons. Plain Lean. -/
namespace RY
open Bead
end RY

end

section
set_option Elab.async false
set_option linter.all false
set_option maxRecDepth 100000
set_option maxHeartbeats 2000000
namespace MP
open PySem PySem.Spec PyProof.Rows L2
open Bead (Bytes In isDigit)
/-! ### the text by places -/
def top (i : Nat) : Stmt := PySem.Challenge.pw_beadbodies_s05_turned.main.body.getD i (.Pass ⟨0, 0, 0, 0⟩)
abbrev sXI : Stmt := inClass (top 13) 0
abbrev sMI : Stmt := inClass (top 14) 0
abbrev sRI : Stmt := inClass (top 15) 0
abbrev sAt : Stmt := inClass (top 15) 1
abbrev sSee : Stmt := inClass (top 15) 2
abbrev sDig : Stmt := inClass (top 15) 3
abbrev sSkip : Stmt := inClass (top 15) 4
abbrev sBeg : Stmt := top 16
abbrev sRd : Stmt := top 17
abbrev sRn : Stmt := top 18
abbrev sRl : Stmt := top 19
abbrev sTc : Stmt := top 20
abbrev sTt : Stmt := top 21
abbrev sRm : Stmt := top 22
abbrev sline_of : Stmt := top 23
abbrev stext_of : Stmt := top 24
abbrev sturned_about_x : Stmt := top 25
abbrev sturned_about_y : Stmt := top 26
abbrev sturned_about_z : Stmt := top 27
abbrev sturned_corner : Stmt := top 28
abbrev sturned_mesh : Stmt := top 29
abbrev sAns : Stmt := top 35
abbrev sRef : Stmt := top 36
abbrev sTel : Stmt := top 37
abbrev sMo : Stmt := top 38
abbrev sturned : Stmt := top 39
/-- the addresses: classes, functions -/
structure Adr where
  cF : Addr
  fF : Addr
  cM : Addr
  fM : Addr
  cR : Addr
  fR : Addr
  fAt : Addr
  fSee : Addr
  fDig : Addr
  fSkip : Addr
  fBeg : Addr
  fRd : Addr
  fRn : Addr
  fRl : Addr
  fTc : Addr
  fTt : Addr
  fRm : Addr
  fline_of : Addr
  ftext_of : Addr
  fturned_about_x : Addr
  fturned_about_y : Addr
  fturned_about_z : Addr
  fturned_corner : Addr
  fturned_mesh : Addr
  fAns : Addr
  fRef : Addr
  fTel : Addr
  fMo : Addr
  fturned : Addr
/-- a def of the text -/
def FB (K : PySem.W.Frag) (x qual : Str) (st : Stmt) (f : Addr) (ps : List Str) : Prop := ∃ fd, Fun K x qual st f fd ∧ Binds K fd ps []
/-- a global that is a number -/
def NumIs (mg : Str → Option Value) (x : Str) (z : Int) : Prop := ∃ t, mg x = some (.int z t)
structure Txt (K : PySem.W.Frag) (mg : Str → Option Value) (A : Adr) : Prop where
  exF : ExMk K A.cF A.fF ["place"]
  gF : mg "MeshFault" = some (.ref A.cF)
  bF : FB K "__init__" "MeshFault.__init__" sXI A.fF ["self", "place"]
  cM : Cls K A.cM
  mkM : Mk K A.cM A.fM
  nMc : NoAttr K A.cM "corners"
  nMt : NoAttr K A.cM "triangles"
  gM : mg "Mesh" = some (.ref A.cM)
  bM : FB K "__init__" "Mesh.__init__" sMI A.fM ["self", "corners", "triangles"]
  cR : Cls K A.cR
  mkR : Mk K A.cR A.fR
  nRs : NoAttr K A.cR "signs"
  nRp : NoAttr K A.cR "place"
  gR : mg "Reader" = some (.ref A.cR)
  bR : FB K "__init__" "Reader.__init__" sRI A.fR ["self", "signs"]
  mAt : Meth K A.cR "at_end" A.fAt
  bAt : FB K "at_end" "Reader.at_end" sAt A.fAt ["self"]
  mSee : Meth K A.cR "sees" A.fSee
  bSee : FB K "sees" "Reader.sees" sSee A.fSee ["self", "sign"]
  mDig : Meth K A.cR "sees_digit" A.fDig
  bDig : FB K "sees_digit" "Reader.sees_digit" sDig A.fDig ["self"]
  mSkip : Meth K A.cR "skip" A.fSkip
  bSkip : FB K "skip" "Reader.skip" sSkip A.fSkip ["self", "sign"]
  gBeg : mg "begins_number" = some (.ref A.fBeg)
  bBeg : FB K "begins_number" "begins_number" sBeg A.fBeg ["value", "greatest", "taken"]
  gRd : mg "read_digit" = some (.ref A.fRd)
  bRd : FB K "read_digit" "read_digit" sRd A.fRd ["reader", "tens", "greatest", "taken"]
  gRn : mg "read_number" = some (.ref A.fRn)
  bRn : FB K "read_number" "read_number" sRn A.fRn ["reader", "greatest", "taken"]
  gRl : mg "read_line" = some (.ref A.fRl)
  bRl : FB K "read_line" "read_line" sRl A.fRl ["reader", "sign", "greatest", "differ"]
  gTc : mg "takes_corner" = some (.ref A.fTc)
  bTc : FB K "takes_corner" "takes_corner" sTc A.fTc ["mesh"]
  gTt : mg "takes_triangle" = some (.ref A.fTt)
  bTt : FB K "takes_triangle" "takes_triangle" sTt A.fTt ["mesh"]
  gRm : mg "read_mesh" = some (.ref A.fRm)
  bRm : FB K "read_mesh" "read_mesh" sRm A.fRm ["signs"]
  gline_of : mg "line_of" = some (.ref A.fline_of)
  bline_of : FB K "line_of" "line_of" sline_of A.fline_of ["letter", "numbers"]
  gtext_of : mg "text_of" = some (.ref A.ftext_of)
  btext_of : FB K "text_of" "text_of" stext_of A.ftext_of ["mesh"]
  gturned_about_x : mg "turned_about_x" = some (.ref A.fturned_about_x)
  bturned_about_x : FB K "turned_about_x" "turned_about_x" sturned_about_x A.fturned_about_x ["corner"]
  gturned_about_y : mg "turned_about_y" = some (.ref A.fturned_about_y)
  bturned_about_y : FB K "turned_about_y" "turned_about_y" sturned_about_y A.fturned_about_y ["corner"]
  gturned_about_z : mg "turned_about_z" = some (.ref A.fturned_about_z)
  bturned_about_z : FB K "turned_about_z" "turned_about_z" sturned_about_z A.fturned_about_z ["corner"]
  gturned_corner : mg "turned_corner" = some (.ref A.fturned_corner)
  bturned_corner : FB K "turned_corner" "turned_corner" sturned_corner A.fturned_corner ["corner", "k"]
  gturned_mesh : mg "turned_mesh" = some (.ref A.fturned_mesh)
  bturned_mesh : FB K "turned_mesh" "turned_mesh" sturned_mesh A.fturned_mesh ["mesh", "k"]
  gAns : mg "answer" = some (.ref A.fAns)
  bAns : FB K "answer" "answer" sAns A.fAns ["number", "told", "numbers"]
  gRef : mg "refusal" = some (.ref A.fRef)
  bRef : FB K "refusal" "refusal" sRef A.fRef ["number"]
  gTel : mg "telling" = some (.ref A.fTel)
  bTel : FB K "telling" "telling" sTel A.fTel ["told"]
  gMo : mg "mesh_of" = some (.ref A.fMo)
  bMo : FB K "mesh_of" "mesh_of" sMo A.fMo ["t"]
  gturned : mg "turned" = some (.ref A.fturned)
  bturned : FB K "turned" "turned" sturned A.fturned ["k", "t"]
  n64 : NumIs mg "MOST_CORNERS" 64
  n128 : NumIs mg "MOST_TRIANGLES" 128
  nG : NumIs mg "GREATEST_COORDINATE" 65535
  n_GREATEST_TURN : NumIs mg "GREATEST_TURN" 23
  nLE : NumIs mg "LINE_END" 10
  nB : NumIs mg "BLANK" 32
  n48 : NumIs mg "NOUGHT" 48
  n57 : NumIs mg "NINE" 57
  nT : NumIs mg "TRIANGLE_SIGN" 116
  nC : NumIs mg "CORNER_SIGN" 118
  nMB : NumIs mg "MOST_BYTES" 16384
  n_OUT_OF_RANGE : NumIs mg "OUT_OF_RANGE" (-1)
  nTL : NumIs mg "TOO_LONG" (-2)
  nNS : NumIs mg "NONE_SUCH" (-6)
  any : mg "any" = none
  len : mg "len" = none
  ord : mg "ord" = none
  range : mg "range" = none
  str : mg "str" = none
  tuple : mg "tuple" = none
  t_TURNS_ABOUT_X : TupG K mg "TURNS_ABOUT_X" [0, 1, 2, 3, 0, 0]
  t_TURNS_ABOUT_Y : TupG K mg "TURNS_ABOUT_Y" [0, 0, 0, 0, 1, 3]
/- not told of: TURNS_ABOUT_X, TURNS_ABOUT_Y -/
/-! ### common -/
def bV (c : UInt8) : V := .int (c.toNat : Int)
def nV (n : Nat) : V := .int (n : Int)
theorem yesT {σ : L2.St} {H : Hp} {A B : Hp → Prop} (h : A H) : tYes σ H (fun b H3 => if b = true then A H3 else B H3) := by
  show (if true = true then A H else B H)
  rw [if_pos rfl]
  exact h
theorem blkOk_at {X : Cx} {N : List Str} {sc scope : Scope} {own : List (Str × Nat)} (h : blkC N sc scope own = true) (hN : X.N = N := by rfl) (hs : X.env.scope = sc := by rfl) : BlkOk X.N X.env.scope scope own := by
  rw [hN, hs]
  exact blkOk_by h
theorem pe_num {X : Cx} {x : Str} {z : Int} {pos : Pos} (hg : Gl X x) (n : NumIs X.mg x z) (hd : (x == ("__debug__" : Str)) = false := by decide) : PE X (.Name x pos) (tC (.int z)) := by
  obtain ⟨t, e⟩ := n
  exact pe_glob hg e ⟨t, rfl⟩ hd
theorem pe_gref {X : Cx} {x : Str} {a : Addr} {pos : Pos} (hg : Gl X x) (hm : X.mg x = some (.ref a)) (hd : (x == ("__debug__" : Str)) = false := by decide) : PE X (.Name x pos) (tC (.ref a)) := pe_glob (v := .ref a) hg hm (show L2.RelV (.ref a) (.ref a) from rfl) hd
theorem pe_no {X : Cx} {e : Expr} : PE X e (fun _ _ _ => False) := fun _ _ _ _ _ _ h => h.elim

/-- all that was tracked but the object at r is as it was -/
def Keep (r : Addr) (H H' : Hp) : Prop := ∀ b o, H b = some o → b ≠ r → H' b = some o
theorem Same.new {H : Hp} {l : Addr} {o : HO} (h : H l = none) : Same H (upd H l o) := fun b u q => by
  rw [upd_ne (ne_of_none q h)]
  exact q
theorem Keep.refl (r : Addr) (H : Hp) : Keep r H H := fun _ _ e _ => e
theorem Keep.trans {r : Addr} {H H1 H2 : Hp} (a : Keep r H H1) (b : Keep r H1 H2) : Keep r H H2 := fun c o h n => b c o (a c o h n) n
theorem Keep.seq {K : PySem.W.Frag} {r : Addr} {H H' : Hp} {C dx : Addr} {fs : List (Str × V)} {a : Addr} {xs : List V} (hr : H r = some (.ins C dx fs)) (k : Keep r H H') (h : SqL K H a xs) : SqL K H' a xs := by
  rcases h with (h | ⟨o, h⟩) | h
  · exact .inl (.inl (k _ _ h (ne_of h hr (by intro z; cases z))))
  · exact .inl (.inr ⟨o, k _ _ h (ne_of h hr (by intro z; cases z))⟩)
  · exact .inr h
theorem noPlace : typeLookup (.type "ValueError") "place" = pure none := by
  rw [typeLookup_type, builtinLookup_eq_fast]
  kernel_rfl
theorem u8_eq {c d : UInt8} : ((c.toNat : Int) = (d.toNat : Int)) ↔ c = d := by
  constructor
  · intro h
    exact UInt8.toNat_inj.mp (by omega)
  · rintro rfl
    rfl
theorem in_nats (v : Nat) : ∀ ts : List Nat, inV (.int (v : Int)) (ts.map nV) = ts.contains v
  | [] => rfl
  | t :: ts => by
    have ih := in_nats v ts
    unfold inV at ih ⊢
    rw [List.map_cons, List.any_cons, ih, List.contains_cons]
    congr 1
    show (((t : Int) == (v : Int)) : Bool) = (v == t)
    rw [Bool.eq_iff_iff, beq_iff_eq, beq_iff_eq]
    omega
theorem flat_nats : ∀ ts : List Nat, (ts.map nV).all flatV = true
  | [] => rfl
  | t :: ts => by
    rw [List.map_cons, List.all_cons, flat_nats ts]
    rfl
theorem line_at {n : Nat} (h : n ≤ 300000) : n ≤ sizeLine := Nat.le_trans h (by decide)
/-! ### the data -/
def rf (a : Addr) (p : Nat) : List (Str × V) := putF "place" (.int (p : Int)) (putF "signs" (.ref a) [])
theorem rf_signs (a : Addr) (p : Nat) : (rf a p).lookup ("signs" : Str) = some (.ref a) := by
  unfold rf
  rw [lookup_putF, if_neg (by decide +kernel), lookup_putF, if_pos rfl]
theorem rf_place (a : Addr) (p : Nat) : (rf a p).lookup ("place" : Str) = some (.int (p : Int)) := by
  unfold rf
  rw [lookup_putF, if_pos rfl]
theorem rf_no (a : Addr) (p : Nat) {m : Str} (h1 : ¬ m = "place") (h2 : ¬ m = "signs") : (rf a p).lookup m = none := by
  unfold rf
  rw [lookup_putF, if_neg h1, lookup_putF, if_neg h2]
  all_goals rfl
theorem rf_put (a : Addr) (p q : Nat) : putF "place" (.int (q : Int)) (rf a p) = rf a q := by
  unfold rf
  have e : putF "signs" (V.ref a) [] = [(("signs" : Str), V.ref a)] := rfl
  have n : ¬ (("signs" : Str) = "place") := by decide +kernel
  rw [e]
  show putF "place" _ (if ("signs" : Str) = "place" then _ else _) = (if ("signs" : Str) = "place" then _ else _)
  rw [if_neg n, if_neg n]
  show (if ("signs" : Str) = "place" then _ else ((("signs" : Str), V.ref a) :: (if ("place" : Str) = "place" then _ else _))) = _
  rw [if_neg n, if_pos rfl]
  rfl
def mf (c t : Addr) : List (Str × V) := putF "triangles" (.ref t) (putF "corners" (.ref c) [])
theorem mf_c (c t : Addr) : (mf c t).lookup ("corners" : Str) = some (.ref c) := by
  unfold mf
  rw [lookup_putF, if_neg (by decide +kernel), lookup_putF, if_pos rfl]
theorem mf_t (c t : Addr) : (mf c t).lookup ("triangles" : Str) = some (.ref t) := by
  unfold mf
  rw [lookup_putF, if_pos rfl]
/-- a reader of B at a, place p -/
def RdAt (A : Adr) (H : Hp) (r a : Addr) (p : Nat) : Prop := ∃ dx, H r = some (.ins A.cR dx (rf a p))
/-- what is wanted where MeshFault(p) is raised -/
def Ex (A : Adr) (r : Addr) (H : Hp) (E : XK) (p : Nat) : Prop := ∀ (dx : Addr) (H' : Hp), H' dx = some (.xd [("place", .int (p : Int))]) → Keep r H H' → E (.ref A.cF) (some dx) H'
theorem Ex.at_ {A : Adr} {r : Addr} {H H1 : Hp} {E : XK} {p : Nat} (h : Ex A r H E p) (k : Keep r H H1) : Ex A r H1 E p := fun dx H' q k' => h dx H' q (k.trans k')
def ExM (A : Adr) (H : Hp) (E : XK) (p : Nat) : Prop := ∀ (dx : Addr) (H' : Hp), H' dx = some (.xd [("place", .int (p : Int))]) → Same H H' → E (.ref A.cF) (some dx) H'
theorem Keep.raised {r ea : Addr} {H0 H H' : Hp} {o : HO} (ne : H ea = none) (s : Keep r H0 H) (kx : Keep ea (upd H ea o) H') : Keep r H0 (del H' ea) := fun b u q nb => by
  have q1 := s b u q nb
  have nb2 := ne_of_none q1 ne
  rw [del_ne nb2]
  exact kx b u (by rw [upd_ne nb2]; exact q1) nb2
theorem Same.raised {ea : Addr} {H0 H H' : Hp} {o : HO} (ne : H ea = none) (s : Same H0 H) (kx : Keep ea (upd H ea o) H') : Same H0 (del H' ea) := fun b u q => by
  have q1 := s b u q
  have nb2 := ne_of_none q1 ne
  rw [del_ne nb2]
  exact kx b u (by rw [upd_ne nb2]; exact q1) nb2
section
variable {P : Program} {w : World} {K : PySem.W.Frag} {mg : Str → Option Value} {base : Heap} {A : Adr}
/-! ### MeshFault.__init__ -/
def spXI (A : Adr) : Sp := fun vs H Q _ => ∃ (e : Addr) (z : Nat), vs = [.ref e, .int (z : Int)] ∧ H e = some (Ex0 e A.cF) ∧
  ∀ (dx : Addr) (H' : Hp), H' e = some (ExF e A.cF dx) → H' dx = some (.xd [("place", .int (z : Int))]) → dx ≠ e → Keep e H H' → Q .non H'
theorem scXI : FnScope ["self", "place"] ["self", "place"] (defScope sXI) := ⟨rfl, rfl, rfl, by decide +kernel, rfl, by decide +kernel, by decide +kernel⟩
theorem ok_xi (T : Txt K mg A) : ∃ fd, FnOk P w K mg base CX0 1 A.fF fd ["self", "place"] (spXI A) ∧ Binds K fd ["self", "place"] [] := by
  obtain ⟨fd, F, b⟩ := T.bF
  refine ⟨fd, F.ok scXI (fun vs H Q E h => ?_) (fun cdv A' outer s H vs Q E hr h => ?_), b⟩
  · obtain ⟨e, z, rfl, _⟩ := h
    rfl
  · obtain ⟨e, z, rfl, he, k⟩ := h
    refine ⟨_, pss_one (ps_x0 (pv 0) (pv 1) rfl), ?_⟩
    refine ⟨_, rfl, _, rfl, e, A.cF, A.fF, ["place"], rfl, he, T.exF.ex, List.mem_singleton.mpr rfl, noPlace, fun dx nd ne => ?_⟩
    exact k dx _ upd_same (by rw [upd_ne ne, upd_same]) ne fun b o q nb => by rw [upd_ne nb, upd_ne (ne_of_none q nd)]; exact q
/-! ### Mesh.__init__, Reader.__init__ -/
def spMI (A : Adr) : Sp := fun vs H Q _ => ∃ (x dx c t : Addr), vs = [.ref x, .ref c, .ref t] ∧ H x = some (.ins A.cM dx []) ∧ ∀ H' : Hp, H' x = some (.ins A.cM dx (mf c t)) → Keep x H H' → Q .non H'
theorem scMI : FnScope ["self", "corners", "triangles"] ["self", "corners", "triangles"] (defScope sMI) := ⟨rfl, rfl, rfl, by decide +kernel, rfl, by decide +kernel, by decide +kernel⟩
theorem ok_mi (T : Txt K mg A) : ∃ fd, FnOk P w K mg base CX0 1 A.fM fd ["self", "corners", "triangles"] (spMI A) ∧ Binds K fd ["self", "corners", "triangles"] [] := by
  obtain ⟨fd, F, b⟩ := T.bM
  refine ⟨fd, F.ok scMI (fun vs H Q E h => ?_) (fun cdv A' outer s H vs Q E hr h => ?_), b⟩
  · obtain ⟨x, dx, c, t, rfl, _⟩ := h
    rfl
  · obtain ⟨x, dx, c, t, rfl, hx, k⟩ := h
    refine ⟨_, pss_cons (ps_fld (pv 0) (pv 1) rfl) (pss_one (ps_fld (pv 0) (pv 2) rfl)), ?_⟩
    refine ⟨_, rfl, _, rfl, x, A.cM, dx, [], rfl, hx, T.cM, T.nMc, (by show 0 < 1000; decide), ?_⟩
    refine ⟨_, rfl, _, rfl, x, A.cM, dx, _, rfl, upd_same, T.cM, T.nMt, (by show 1 < 1000; decide), ?_⟩
    exact k _ upd_same fun b o e hb => by rw [upd_ne hb, upd_ne hb]; exact e
def spRI (A : Adr) : Sp := fun vs H Q _ => ∃ (x dx a : Addr), vs = [.ref x, .ref a] ∧ H x = some (.ins A.cR dx []) ∧ ∀ H' : Hp, RdAt A H' x a 0 → Keep x H H' → Q .non H'
theorem scRI : FnScope ["self", "signs"] ["self", "signs"] (defScope sRI) := ⟨rfl, rfl, rfl, by decide +kernel, rfl, by decide +kernel, by decide +kernel⟩
theorem ok_ri (T : Txt K mg A) : ∃ fd, FnOk P w K mg base CX0 1 A.fR fd ["self", "signs"] (spRI A) ∧ Binds K fd ["self", "signs"] [] := by
  obtain ⟨fd, F, b⟩ := T.bR
  refine ⟨fd, F.ok scRI (fun vs H Q E h => ?_) (fun cdv A' outer s H vs Q E hr h => ?_), b⟩
  · obtain ⟨x, dx, a, rfl, _⟩ := h
    rfl
  · obtain ⟨x, dx, a, rfl, hx, k⟩ := h
    refine ⟨_, pss_cons (ps_fld (pv 0) (pv 1) rfl) (pss_one (ps_fld (pv 0) pe_int rfl)), ?_⟩
    refine ⟨_, rfl, _, rfl, x, A.cR, dx, [], rfl, hx, T.cR, T.nRs, (by show 0 < 1000; decide), ?_⟩
    refine ⟨_, rfl, x, A.cR, dx, _, rfl, upd_same, T.cR, T.nRp, (by show 1 < 1000; decide), ?_⟩
    exact k _ ⟨dx, upd_same⟩ fun b o e hb => by rw [upd_ne hb, upd_ne hb]; exact e
/-! ### Reader's looks -/
def spAt (A : Adr) (K : PySem.W.Frag) : Sp := fun vs H Q _ => ∃ (r a : Addr) (p : Nat) (B : Bytes), vs = [.ref r] ∧ RdAt A H r a p ∧ SqL K H a (B.map bV) ∧ Q (.bl (decide (p = B.length))) H
theorem scAt : FnScope ["self"] ["self"] (defScope sAt) := ⟨rfl, rfl, rfl, by decide +kernel, rfl, by decide +kernel, by decide +kernel⟩
theorem ok_at (T : Txt K mg A) : ∃ fd, FnOk P w K mg base CX0 1 A.fAt fd ["self"] (spAt A K) ∧ Binds K fd ["self"] [] := by
  obtain ⟨fd, F, b⟩ := T.bAt
  refine ⟨fd, F.ok scAt (fun vs H Q E h => ?_) (fun cdv A' outer s H vs Q E hr h => ?_), b⟩
  · obtain ⟨r, a, p, B, rfl, _⟩ := h
    rfl
  · obtain ⟨r, a, p, B, rfl, ⟨dx, h1⟩, hs, k⟩ := h
    refine ⟨_, pss_one (ps_ret (pe_cmp (pc_eqI (pe_fld (pv 0) rfl) (pe_callB call_len_seq (by rfl) T.len PySem.boot_len (pa_cons (pe_fld (pv 0) rfl) pa_nil))))), ?_⟩
    refine ⟨_, rfl, r, A.cR, dx, _, _, rfl, h1, T.cR, T.nRp, rf_place a p, _, rfl, r, A.cR, dx, _, _, rfl, h1, T.cR, T.nRs, rf_signs a p, a, _, rfl, .inl hs, _, _, rfl, rfl, ?_⟩
    have e : decide ((p : Int) = ((B.map bV).length : Int)) = decide (p = B.length) := by
      rw [List.length_map, decide_eq_decide]
      omega
    show Q (.bl (decide ((p : Int) = ((B.map bV).length : Int)))) H
    rw [e]
    exact k
def spSee (A : Adr) (K : PySem.W.Frag) : Sp := fun vs H Q _ => ∃ (r a : Addr) (p : Nat) (B : Bytes) (c : UInt8), vs = [.ref r, .int (c.toNat : Int)] ∧ RdAt A H r a p ∧ SqL K H a (B.map bV) ∧ p ≤ B.length ∧ Q (.bl (decide (B[p]? = some c))) H
theorem scSee : FnScope ["self", "sign"] ["self", "sign"] (defScope sSee) := ⟨rfl, rfl, rfl, by decide +kernel, rfl, by decide +kernel, by decide +kernel⟩
theorem ok_see (T : Txt K mg A) : ∃ fd, FnOk P w K mg base CX0 2 A.fSee fd ["self", "sign"] (spSee A K) ∧ Binds K fd ["self", "sign"] [] := by
  obtain ⟨fd, F, b⟩ := T.bSee
  obtain ⟨fdA, GA, bA⟩ := ok_at (P := P) (w := w) (base := base) T
  refine ⟨fd, F.ok scSee (fun vs H Q E h => ?_) (fun cdv A' outer s H vs Q E hr h => ?_), b⟩
  · obtain ⟨r, a, p, B, c, rfl, _⟩ := h
    rfl
  · obtain ⟨r, a, p, B, c, rfl, ⟨dx, h1⟩, hs, hp, k⟩ := h
    refine ⟨_, pss_one (ps_ret (pe_and (pe_not (pe_meth0 (pv 0) T.cR T.mAt GA hr bA .nil pass0)) (pe_one (pe_cmpR op_eq (pe_ix ix_list (pe_fld (pv 0) rfl) (pe_fld (pv 0) rfl) (fun _ _ => rfl)) (pv 1) (nomark _))))), ?_⟩
    refine ⟨_, rfl, r, dx, _, rfl, h1, rf_no a p (by decide +kernel) (by decide +kernel), r, a, p, B, rfl, ⟨dx, h1⟩, hs, _, rfl, _, rfl, ?_⟩
    by_cases e : p = B.length
    · rw [decide_eq_true e]
      show Q (.bl false) H
      have n : B[p]? = none := List.getElem?_eq_none (by omega)
      rw [show decide (B[p]? = some c) = false by rw [n]; rfl] at k
      exact k
    · rw [decide_eq_false e]
      have hlt : p < B.length := by omega
      have g : B[p]? = some B[p] := List.getElem?_eq_getElem hlt
      show _
      refine ⟨_, rfl, r, A.cR, dx, _, _, rfl, h1, T.cR, T.nRs, rf_signs a p, _, rfl, r, A.cR, dx, _, _, rfl, h1, T.cR, T.nRp, rf_place a p, a, _, _, bV B[p], rfl, rfl, hs, atI_nat (by rw [List.getElem?_map, g]; rfl), _, rfl, rfl, ?_⟩
      have q : decide (bV B[p] = V.int (c.toNat : Int)) = decide (B[p]? = some c) := by
        rw [decide_eq_decide, g]
        constructor
        · intro z
          have z' : (B[p].toNat : Int) = (c.toNat : Int) := by
            injection z
          rw [u8_eq.mp z']
        · intro z
          rw [Option.some.inj z]
          rfl
      rw [q]
      exact k
/-- a digit stands at the place -/
def sd (B : Bytes) (p : Nat) : Bool := match B[p]? with
  | some c => isDigit c
  | none => false
theorem dig_int (c : UInt8) : isDigit c = (decide ((48 : Int) ≤ (c.toNat : Int)) && decide ((c.toNat : Int) ≤ 57)) := by
  unfold isDigit
  have h1 : ((48 : UInt8) ≤ c) ↔ ((48 : Int) ≤ (c.toNat : Int)) := by
    rw [UInt8.le_iff_toNat_le]
    show 48 ≤ c.toNat ↔ _
    omega
  have h2 : (c ≤ (57 : UInt8)) ↔ ((c.toNat : Int) ≤ 57) := by
    rw [UInt8.le_iff_toNat_le]
    show c.toNat ≤ 57 ↔ _
    omega
  rw [decide_eq_decide.mpr h1, decide_eq_decide.mpr h2]
def spDig (A : Adr) (K : PySem.W.Frag) : Sp := fun vs H Q _ => ∃ (r a : Addr) (p : Nat) (B : Bytes), vs = [.ref r] ∧ RdAt A H r a p ∧ SqL K H a (B.map bV) ∧ p ≤ B.length ∧ Q (.bl (sd B p)) H
theorem scDig : FnScope ["self"] ["self"] (defScope sDig) := ⟨rfl, rfl, rfl, by decide +kernel, rfl, by decide +kernel, by decide +kernel⟩
theorem ok_dig (T : Txt K mg A) : ∃ fd, FnOk P w K mg base CX0 2 A.fDig fd ["self"] (spDig A K) ∧ Binds K fd ["self"] [] := by
  obtain ⟨fd, F, b⟩ := T.bDig
  obtain ⟨fdA, GA, bA⟩ := ok_at (P := P) (w := w) (base := base) T
  refine ⟨fd, F.ok scDig (fun vs H Q E h => ?_) (fun cdv A' outer s H vs Q E hr h => ?_), b⟩
  · obtain ⟨r, a, p, B, rfl, _⟩ := h
    rfl
  · obtain ⟨r, a, p, B, rfl, ⟨dx, h1⟩, hs, hp, k⟩ := h
    refine ⟨_, pss_one (ps_ret (pe_and (pe_not (pe_meth0 (pv 0) T.cR T.mAt GA hr bA .nil pass0)) (pe_one (pe_chain op_le op_le (pe_num (by rfl) T.n48) (pe_ix ix_list (pe_fld (pv 0) rfl) (pe_fld (pv 0) rfl) (fun _ _ => rfl)) (pe_num (by rfl) T.n57))))), ?_⟩
    refine ⟨_, rfl, r, dx, _, rfl, h1, rf_no a p (by decide +kernel) (by decide +kernel), r, a, p, B, rfl, ⟨dx, h1⟩, hs, _, rfl, _, rfl, ?_⟩
    by_cases e : p = B.length
    · rw [decide_eq_true e]
      show Q (.bl false) H
      have n : B[p]? = none := List.getElem?_eq_none (by omega)
      rw [show sd B p = false by unfold sd; rw [n]] at k
      exact k
    · rw [decide_eq_false e]
      have hlt : p < B.length := by omega
      have g : B[p]? = some B[p] := List.getElem?_eq_getElem hlt
      rw [show sd B p = isDigit B[p] by unfold sd; rw [g], dig_int] at k
      show _
      refine ⟨_, rfl, r, A.cR, dx, _, _, rfl, h1, T.cR, T.nRs, rf_signs a p, _, rfl, r, A.cR, dx, _, _, rfl, h1, T.cR, T.nRp, rf_place a p, a, _, _, bV B[p], rfl, rfl, hs, atI_nat (by rw [List.getElem?_map, g]; rfl), _, _, rfl, rfl, _, rfl, ?_⟩
      by_cases e1 : (48 : Int) ≤ (B[p].toNat : Int)
      · rw [decide_eq_true e1] at k ⊢
        refine iteT ?_
        refine ⟨_, _, rfl, rfl, ?_⟩
        rw [Bool.true_and] at k
        exact k
      · rw [decide_eq_false e1] at k ⊢
        refine iteF ?_
        exact k
/-! ### skip -/
def spSkip (A : Adr) (K : PySem.W.Frag) : Sp := fun vs H Q E => ∃ (r a : Addr) (p : Nat) (B : Bytes) (c : UInt8), vs = [.ref r, .int (c.toNat : Int)] ∧ RdAt A H r a p ∧ SqL K H a (B.map bV) ∧ p ≤ B.length ∧
  (B[p]? = some c → ∀ H' : Hp, RdAt A H' r a (p + 1) → Keep r H H' → Q .non H') ∧ (B[p]? ≠ some c → Ex A r H E p)
theorem scSkip : FnScope ["self", "sign"] ["self", "sign"] (defScope sSkip) := ⟨rfl, rfl, rfl, by decide +kernel, rfl, by decide +kernel, by decide +kernel⟩
theorem ok_skip (T : Txt K mg A) : ∃ fd, FnOk P w K mg base (CXE P w) 3 A.fSkip fd ["self", "sign"] (spSkip A K) ∧ Binds K fd ["self", "sign"] [] := by
  obtain ⟨fd, F, b⟩ := T.bSkip
  obtain ⟨fdS, GS, bS⟩ := ok_see (P := P) (w := w) (base := base) T
  obtain ⟨fdX, GX, bX⟩ := ok_xi (P := P) (w := w) (base := base) T
  refine ⟨fd, F.okE scSkip (fun vs H Q E h => ?_) (fun cdv A' outer s H vs Q E hr h => ?_), b⟩
  · obtain ⟨r, a, p, B, c, rfl, _⟩ := h
    rfl
  · obtain ⟨r, a, p, B, c, rfl, ⟨dx, h1⟩, hs, hp, k1, k2⟩ := h
    refine ⟨_, pss_cons (ps_if (pt_not (pt_val (pe_meth (pv 0) T.cR T.mSee GS hr bS .nil pass0 (pa_cons (pv 1) pa_nil)))) (pss_one (ps_raise T.exF GX hr (by rfl) T.gF bX (pa_cons (pe_fld (pv 0) rfl) pa_nil))) pss_nil)
      (pss_one (ps_fldaug (pv 0) pe_int in_add)), ?_⟩
    refine ⟨_, rfl, r, dx, _, rfl, h1, rf_no a p (by decide +kernel) (by decide +kernel), _, rfl, r, a, p, B, c, rfl, ⟨dx, h1⟩, hs, hp, _, rfl, ?_⟩
    by_cases e : B[p]? = some c
    · rw [decide_eq_true e]
      show _
      refine ⟨_, rfl, r, A.cR, dx, _, _, rfl, h1, T.cR, T.nRp, rf_place a p, _, _, rfl, rfl, dx, _, h1, (by show 2 < 1000; decide), ?_⟩
      refine k1 e _ ⟨dx, upd_same.trans ?_⟩ fun b o q hb => by rw [upd_ne hb]; exact q
      exact congrArg (fun q => some (HO.ins A.cR dx q)) (rf_put a p (p + 1))
    · rw [decide_eq_false e]
      show _
      refine ⟨_, rfl, r, A.cR, dx, _, _, rfl, h1, T.cR, T.nRp, rf_place a p, fun ea ne => ?_⟩
      refine ⟨ea, p, rfl, upd_same, fun dx' H' e1 e2 n kx => ⟨rfl, dx', _, e1, e2, k2 e dx' _ ?_ (Keep.raised ne (Keep.refl r H) kx)⟩⟩
      rw [del_ne n]
      exact e2
/-! ### begins_number -/
def spBeg (K : PySem.W.Frag) (j : Nat) : Sp := fun vs H Q _ => ∃ (v g : Nat) (tk : Addr) (ts : List Nat), vs = [.int (v : Int), .int (g : Int), .ref tk] ∧ SqL K H tk (ts.map nV) ∧ g ≤ 65535 ∧ (v = 0 ∨ g < v * 10 ^ j) ∧
  ∀ H' : Hp, Same H H' → Q (.bl (MM.beg g ts j v)) H'
theorem scBeg : FnScope ["value", "greatest", "taken", "digit"] ["value", "greatest", "taken"] (defScope sBeg) := ⟨rfl, rfl, rfl, by decide +kernel, rfl, by decide +kernel, by decide +kernel⟩
theorem ok_beg (T : Txt K mg A) : ∃ fd, (∀ j, FnOk P w K mg base CX0 (j + 1) A.fBeg fd ["value", "greatest", "taken"] (spBeg K j)) ∧ Binds K fd ["value", "greatest", "taken"] [] ∧ PySem.W.keepIn K (.ref A.fBeg) = true := by
  obtain ⟨fd, F, b⟩ := T.bBeg
  refine ⟨fd, fun j => ?_, b, F.kp⟩
  induction j with
  | zero =>
    refine F.ok scBeg (fun vs H Q E h => ?_) (fun cdv A' outer s H vs Q E hr h => ?_)
    · obtain ⟨v, g, tk, ts, rfl, _⟩ := h
      rfl
    · obtain ⟨v, g, tk, ts, rfl, hs, hg, hv, k⟩ := h
      have k' := k H (Same.refl H)
      have e0 : MM.beg g ts 0 v = (decide (v ≤ g) && !ts.contains v) := rfl
      rw [e0] at k'
      refine ⟨_, pss_cons (ps_if (pt_cmpR op_gt (pv 0) (pv 1) (nomark _)) (pss_one (ps_ret pe_bl)) pss_nil)
        (pss_cons (ps_if (pt_cmpR op_notIn_seq (pv 0) (pv 2) (by with_unfolding_all rfl)) (pss_one (ps_ret pe_bl)) pss_nil)
        (pss_one (ps_ret (pe_and (pe_cmpR op_gt (pv 0) pe_int (nomark _)) (pe_one pe_no))))), ?_⟩
      refine ⟨_, rfl, _, rfl, _, _, rfl, rfl, _, rfl, ?_⟩
      by_cases h1 : (g : Int) < (v : Int)
      · rw [decide_eq_true h1]; refine iteT ?_
        rw [decide_eq_false (show ¬ v ≤ g by omega)] at k'
        exact k'
      · rw [decide_eq_false h1]; refine iteF ?_
        rw [decide_eq_true (show v ≤ g by omega), Bool.true_and] at k'
        refine ⟨_, rfl, _, rfl, tk, _, rfl, .inl hs, rfl, flat_nats ts, _, rfl, ?_⟩
        rw [in_nats]
        cases h2 : ts.contains v with
        | false =>
          rw [h2] at k'
          exact k'
        | true =>
          rw [h2] at k'
          have z : v = 0 := by
            rcases hv with z | z
            · exact z
            · rw [Nat.pow_zero, Nat.mul_one] at z
              omega
          subst z
          show _
          refine ⟨_, rfl, _, _, rfl, rfl, _, rfl, ?_⟩
          exact k'
  | succ j ih =>
    refine F.ok scBeg (fun vs H Q E h => ?_) (fun cdv A' outer s H vs Q E hr h => ?_)
    · obtain ⟨v, g, tk, ts, rfl, _⟩ := h
      rfl
    · obtain ⟨v, g, tk, ts, rfl, hs, hg, hv, k⟩ := h
      have e0 : MM.beg g ts (j + 1) v = (decide (v ≤ g) && (!ts.contains v || (decide (0 < v) && (List.range 10).any fun d => MM.beg g ts j (10 * v + d)))) := rfl
      refine ⟨_, pss_cons (ps_if (pt_cmpR op_gt (pv 0) (pv 1) (nomark _)) (pss_one (ps_ret pe_bl)) pss_nil)
        (pss_cons (ps_if (pt_cmpR op_notIn_seq (pv 0) (pv 2) (by with_unfolding_all rfl)) (pss_one (ps_ret pe_bl)) pss_nil)
        (pss_one (ps_ret (pe_and (pe_cmpR op_gt (pv 0) pe_int (nomark _)) (pe_one (pe_callB (cr_any rfl) (by rfl) T.any boot_any (pa_cons
          (pe_lc (own := [("digit", 3)]) rfl scBeg.nd (pi_range1 (by rfl) T.range (pa_cons pe_int pa_nil)) (blkOk_at (N := ["value", "greatest", "taken", "digit"]) (sc := defScope sBeg) (by decide +kernel)) (fun _ _ _ _ _ => pg_name (i := 3) scBeg.nd rfl (Or.inl rfl)) (fun _ _ _ _ _ => pts_nil)
            (fun _ _ _ _ _ => pe_call ih hr (by rfl) T.gBeg F.kp b .nil pass0 (pa_cons (pe_op op_add (pe_op op_mul (pv 0) pe_int) (pv 3)) (pa_cons (pv 1) (pa_cons (pv 2) pa_nil))))) pa_nil))))))), ?_⟩
      refine ⟨_, rfl, _, rfl, _, _, rfl, rfl, _, rfl, ?_⟩
      by_cases h1 : (g : Int) < (v : Int)
      · rw [decide_eq_true h1]; refine iteT ?_
        have k' := k H (Same.refl H)
        rw [e0, decide_eq_false (show ¬ v ≤ g by omega)] at k'
        exact k'
      · rw [decide_eq_false h1]; refine iteF ?_
        rw [e0, decide_eq_true (show v ≤ g by omega), Bool.true_and] at k
        refine ⟨_, rfl, _, rfl, tk, _, rfl, .inl hs, rfl, flat_nats ts, _, rfl, ?_⟩
        rw [in_nats]
        cases h2 : ts.contains v with
        | false =>
          rw [h2] at k
          exact k H (Same.refl H)
        | true =>
          rw [h2] at k
          show _
          refine ⟨_, rfl, _, _, rfl, rfl, _, rfl, ?_⟩
          by_cases h3 : (0 : Int) < (v : Int)
          · rw [decide_eq_true h3]; refine iteT ?_
            rw [decide_eq_true (show 0 < v by omega)] at k
            refine ⟨10, rfl, by decide, by decide, fun D hD => lc_range (n := 10) (fun i H' => H' D = some (.lst (((List.range i).map fun d => MM.beg g ts j (10 * v + d)).map V.bl)) ∧ Same H H') ?_ ?_ ?_⟩
            · refine ⟨upd_same, fun b o q => ?_⟩
              rw [upd_ne (ne_of_none q hD)]
              exact q
            · rintro i H' hi ⟨p1, p2⟩
              refine ⟨rfl, yesT ?_⟩
              refine ⟨_, rfl, _, _, rfl, rfl, .inl ⟨by omega, by omega⟩, _, rfl, _, _, rfl, rfl, _, rfl, _, rfl, 10 * v + i, g, tk, ts, ?_, p2.seq hs, hg, .inr ?_, fun H4 s4 => ?_⟩
              · show [V.int ((v : Int) * 10 + (0 + (i : Int))), V.int (g : Int), V.ref tk] = _
                rw [show (v : Int) * 10 + (0 + (i : Int)) = ((10 * v + i : Nat) : Int) by omega]
              · rcases hv with z | z
                · omega
                · have h' : g < v * 10 ^ j * 10 := by
                    rw [Nat.mul_assoc, ← Nat.pow_succ]
                    exact z
                  have : v * 10 ^ j * 10 ≤ (10 * v + i) * 10 ^ j := by
                    rw [Nat.mul_right_comm, Nat.mul_comm v 10]
                    exact Nat.mul_le_mul_right _ (by omega)
                  omega
              · refine ⟨_, s4 _ _ p1, ?_, ?_, fun b o q => ?_⟩
                · rw [List.length_map, List.length_map, List.length_range]
                  exact Nat.lt_of_lt_of_le hi (by show 10 ≤ sizeLine; decide)
                · rw [upd_same, List.range_succ, List.map_append, List.map_append]
                  rfl
                · rw [upd_ne (ne_of_none q hD)]
                  exact s4 _ _ (p2 _ _ q)
            · rintro H' ⟨p1, p2⟩
              refine ⟨D, (List.range 10).map fun d => MM.beg g ts j (10 * v + d), rfl, SqL.of p1, ?_⟩
              have q := k H' p2
              rw [Bool.true_and, Bool.not_true, Bool.false_or] at q
              rw [List.any_map]
              exact q
          · rw [decide_eq_false h3]; refine iteF ?_
            have q := k H (Same.refl H)
            rw [decide_eq_false (show ¬ 0 < v by omega)] at q
            exact q
/-! ### read_digit -/
def spRd (A : Adr) (K : PySem.W.Frag) : Sp := fun vs H Q E => ∃ (r a tk : Addr) (p tens g : Nat) (B : Bytes) (ts : List Nat), vs = [.ref r, .int (tens : Int), .int (g : Int), .ref tk] ∧ RdAt A H r a p ∧ SqL K H a (B.map bV) ∧ SqL K H tk (ts.map nV) ∧ p ≤ B.length ∧ g ≤ 65535 ∧
  (∀ c, B[p]? = some c → isDigit c = true → MM.begins g ts (tens + (c.toNat - 48)) = true → ∀ H' : Hp, RdAt A H' r a (p + 1) → Keep r H H' → Q (.int ((tens + (c.toNat - 48) : Nat) : Int)) H') ∧
  ((∀ c, B[p]? = some c → ¬ (isDigit c = true ∧ MM.begins g ts (tens + (c.toNat - 48)) = true)) → Ex A r H E p)
theorem scRd : FnScope ["reader", "tens", "greatest", "taken", "value"] ["reader", "tens", "greatest", "taken"] (defScope sRd) := ⟨rfl, rfl, rfl, by decide +kernel, rfl, by decide +kernel, by decide +kernel⟩
theorem ok_rd (T : Txt K mg A) : ∃ fd, FnOk P w K mg base (CXE P w) 7 A.fRd fd ["reader", "tens", "greatest", "taken"] (spRd A K) ∧ Binds K fd ["reader", "tens", "greatest", "taken"] [] ∧ PySem.W.keepIn K (.ref A.fRd) = true := by
  obtain ⟨fd, F, b⟩ := T.bRd
  obtain ⟨fdD, GD, bD⟩ := ok_dig (P := P) (w := w) (base := base) T
  obtain ⟨fdX, GX, bX⟩ := ok_xi (P := P) (w := w) (base := base) T
  obtain ⟨fdB, GB, bB, kB⟩ := ok_beg (P := P) (w := w) (base := base) T
  refine ⟨fd, F.okE scRd (fun vs H Q E h => ?_) (fun cdv A' outer s H vs Q E hr h => ?_), b, F.kp⟩
  · obtain ⟨r, a, tk, p, tens, g, B, ts, rfl, _⟩ := h
    rfl
  · obtain ⟨r, a, tk, p, tens, g, B, ts, rfl, ⟨dx, h1⟩, hs, ht, hp, hg, k1, k2⟩ := h
    refine ⟨_, pss_cons (ps_if (pt_not (pt_val (pe_meth0 (pv 0) T.cR T.mDig GD (hr.mono (by decide)) bD .nil pass0))) (pss_one (ps_raise T.exF GX (hr.mono (by decide)) (by rfl) T.gF bX (pa_cons (pe_fld (pv 0) rfl) pa_nil))) pss_nil)
      (pss_cons (ps_set (i := 4) scRd.nd rfl (Or.inl rfl) (pe_op op_sub (pe_op op_add (pv 1) (pe_ix ix_list (pe_fld (pv 0) rfl) (pe_fld (pv 0) rfl) (fun _ _ => rfl))) (pe_num (by rfl) T.n48)))
      (pss_cons (ps_if (pt_not (pt_val (pe_call (GB 5) hr (by rfl) T.gBeg kB bB .nil pass0 (pa_cons (pv 4) (pa_cons (pv 2) (pa_cons (pv 3) pa_nil)))))) (pss_one (ps_raise T.exF GX (hr.mono (by decide)) (by rfl) T.gF bX (pa_cons (pe_fld (pv 0) rfl) pa_nil))) pss_nil)
      (pss_cons (ps_fldaug (pv 0) pe_int in_add)
      (pss_one (ps_ret (pv 4)))))), ?_⟩
    refine ⟨_, rfl, r, dx, _, rfl, h1, rf_no a p (by decide +kernel) (by decide +kernel), r, a, p, B, rfl, ⟨dx, h1⟩, hs, hp, _, rfl, ?_⟩
    by_cases e : sd B p = true
    · obtain ⟨c, hc, hd⟩ : ∃ c, B[p]? = some c ∧ isDigit c = true := by
        unfold sd at e
        cases q : B[p]? with
        | none =>
          rw [q] at e
          cases e
        | some c =>
          rw [q] at e
          exact ⟨c, rfl, e⟩
      have hd' := hd
      rw [dig_int, Bool.and_eq_true, decide_eq_true_eq, decide_eq_true_eq] at hd'
      have ev : (tens : Int) + (c.toNat : Int) - 48 = ((tens + (c.toNat - 48) : Nat) : Int) := by omega
      rw [e]
      show _
      refine ⟨_, rfl, _, rfl, r, A.cR, dx, _, _, rfl, h1, T.cR, T.nRs, rf_signs a p, _, rfl, r, A.cR, dx, _, _, rfl, h1, T.cR, T.nRp, rf_place a p, a, _, _, bV c, rfl, rfl, hs, atI_nat (by rw [List.getElem?_map, hc]; rfl), _, _, rfl, rfl, _, _, rfl, rfl, ?_⟩
      dsimp only
      rw [ev]
      refine ⟨_, rfl, _, rfl, _, rfl, tens + (c.toNat - 48), g, tk, ts, rfl, ht, hg, ?_, fun H2 s2 => ⟨_, rfl, ?_⟩⟩
      · by_cases z : tens + (c.toNat - 48) = 0
        · exact .inl z
        · refine .inr ?_
          have : 1 * 10 ^ 5 ≤ (tens + (c.toNat - 48)) * 10 ^ 5 := Nat.mul_le_mul_right _ (by omega)
          omega
      · have h2 := s2 _ _ h1
        by_cases e2 : MM.begins g ts (tens + (c.toNat - 48)) = true
        · have e3 : MM.beg g ts 5 (tens + (c.toNat - 48)) = true := e2
          rw [e3]
          show _
          refine ⟨_, rfl, r, A.cR, dx, _, _, rfl, h2, T.cR, T.nRp, rf_place a p, _, _, rfl, rfl, dx, _, h2, (by show 2 < 1000; decide), ?_⟩
          refine ⟨_, rfl, ?_⟩
          refine k1 c hc hd e2 _ ⟨dx, upd_same.trans ?_⟩ fun b o q hb => by rw [upd_ne hb]; exact s2 _ _ q
          exact congrArg (fun q => some (HO.ins A.cR dx q)) (rf_put a p (p + 1))
        · have e3 : MM.beg g ts 5 (tens + (c.toNat - 48)) = false := by
            cases z : MM.beg g ts 5 (tens + (c.toNat - 48)) with
            | false => rfl
            | true => exact absurd z e2
          rw [e3]
          show _
          refine ⟨_, rfl, r, A.cR, dx, _, _, rfl, h2, T.cR, T.nRp, rf_place a p, fun ea ne => ?_⟩
          refine ⟨ea, p, rfl, upd_same, fun dx' H' e1 e2' n kx => ⟨rfl, dx', _, e1, e2', k2 ?_ dx' _ ?_ (Keep.raised ne (fun b o q _ => s2 b o q) kx)⟩⟩
          · intro c' hc' z
            rw [hc] at hc'
            cases hc'
            exact e2 z.2
          · rw [del_ne n]
            exact e2'
    · have e' : sd B p = false := by
        cases z : sd B p with
        | false => rfl
        | true => exact absurd z e
      rw [e']
      show _
      refine ⟨_, rfl, r, A.cR, dx, _, _, rfl, h1, T.cR, T.nRp, rf_place a p, fun ea ne => ?_⟩
      refine ⟨ea, p, rfl, upd_same, fun dx' H' e1 e2 n kx => ⟨rfl, dx', _, e1, e2, k2 ?_ dx' _ ?_ (Keep.raised ne (Keep.refl r H) kx)⟩⟩
      · intro c hc z
        unfold sd at e'
        rw [hc] at e'
        dsimp only at e'
        rw [z.1] at e'
        cases e'
      · rw [del_ne n]
        exact e2
/-! ### read_number -/
def spRn (A : Adr) (K : PySem.W.Frag) : Sp := fun vs H Q E => ∃ (r a tk : Addr) (p g : Nat) (B : Bytes) (ts : List Nat), vs = [.ref r, .int (g : Int), .ref tk] ∧ RdAt A H r a p ∧ SqL K H a (B.map bV) ∧ SqL K H tk (ts.map nV) ∧ p ≤ B.length ∧ g ≤ 65535 ∧
  (∀ (v q : Nat), MM.numIn g ts p (B.drop p) = .ok (v, q, B.drop q) → q ≤ B.length → p < q → ∀ H' : Hp, RdAt A H' r a q → Keep r H H' → Q (.int (v : Int)) H') ∧
  (∀ q : Nat, (MM.numIn g ts p (B.drop p) = .error q ∨ ∃ v c, MM.numIn g ts p (B.drop p) = .ok (v, q, B.drop q) ∧ B[q]? = some c ∧ isDigit c = true) → Ex A r H E q)
theorem scRn : FnScope ["reader", "greatest", "taken", "value"] ["reader", "greatest", "taken"] (defScope sRn) := ⟨rfl, rfl, rfl, by decide +kernel, rfl, by decide +kernel, by decide +kernel⟩
theorem ok_rn (T : Txt K mg A) : ∃ fd, FnOk P w K mg base (CXE P w) 8 A.fRn fd ["reader", "greatest", "taken"] (spRn A K) ∧ Binds K fd ["reader", "greatest", "taken"] [] ∧ PySem.W.keepIn K (.ref A.fRn) = true := by
  obtain ⟨fd, F, b⟩ := T.bRn
  obtain ⟨fdD, GD, bD⟩ := ok_dig (P := P) (w := w) (base := base) T
  obtain ⟨fdX, GX, bX⟩ := ok_xi (P := P) (w := w) (base := base) T
  obtain ⟨fdR, GR, bR, kR⟩ := ok_rd (P := P) (w := w) (base := base) T
  refine ⟨fd, F.okE scRn (fun vs H Q E h => ?_) (fun cdv A' outer s H vs Q E hr h => ?_), b, F.kp⟩
  · obtain ⟨r, a, tk, p, g, B, ts, rfl, _⟩ := h
    rfl
  · obtain ⟨r, a, tk, p, g, B, ts, rfl, ⟨dx, h1⟩, hs, ht, hp, hg, k1, k2⟩ := h
    refine ⟨_, pss_cons (ps_set (i := 3) scRn.nd rfl (Or.inl rfl) (pe_call GR hr (by rfl) T.gRd kR bR .nil pass_up (pa_cons (pv 0) (pa_cons pe_int (pa_cons (pv 1) (pa_cons (pv 2) pa_nil))))))
      (pss_cons (ps_while pass_own (pw_and (pt_cmpR op_gt (pv 3) pe_int (nomark _)) (pw_and1 (pt_val (pe_meth0 (pv 0) T.cR T.mDig GD (hr.mono (by decide)) bD .nil pass0)))).pt
        (pss_one (ps_set (i := 3) scRn.nd rfl (Or.inl rfl) (pe_call GR hr (by rfl) T.gRd kR bR .nil pass_up (pa_cons (pv 0) (pa_cons (pe_op op_mul (pv 3) pe_int) (pa_cons (pv 1) (pa_cons (pv 2) pa_nil))))))))
      (pss_cons (ps_if (pt_cmpR op_in_seq (pv 3) (pv 2) (by with_unfolding_all rfl)) (pss_one (ps_raise T.exF GX (hr.mono (by decide)) (by rfl) T.gF bX (pa_cons (pe_fld (pv 0) rfl) pa_nil))) pss_nil)
      (pss_one (ps_ret (pv 3))))), ?_⟩
    -- the first figure
    refine ⟨_, rfl, _, rfl, _, rfl, r, a, tk, p, 0, g, B, ts, rfl, ⟨dx, h1⟩, hs, ht, hp, hg, fun c hc hd hb H1 r1 kp1 => ?_, fun no => ?_⟩
    · rw [Nat.zero_add] at hb
      have e1 : MM.numIn g ts p (B.drop p) = MM.fin g ts (p + 1) 8 (c.toNat - 48) (B.drop (p + 1)) := by
        rw [MM.drop_at hc]
        exact MM.num_first hd hb
      have hpl : p + 1 ≤ B.length := (List.getElem?_eq_some_iff.mp hc).1
      -- more figures
      refine ⟨fun m σ H2 => ∃ (v q f : Nat), σ = [some (.ref r), some (.int (g : Int)), some (.ref tk), some (.int (v : Int))] ∧ RdAt A H2 r a q ∧ Keep r H H2 ∧ q ≤ B.length ∧ p < q ∧ v ≤ g ∧ (v = 0 ∨ g < v * 10 ^ f) ∧
          MM.numIn g ts p (B.drop p) = MM.fin g ts q f v (B.drop q) ∧ m = B.length - q, ⟨B.length - (p + 1), c.toNat - 48, p + 1, 8, ?_, r1, kp1, hpl, by omega, MM.begins_le hb, ?_, e1, rfl⟩, ?_⟩
      · rw [Nat.zero_add]
        rfl
      · by_cases z : c.toNat - 48 = 0
        · exact .inl z
        · refine .inr ?_
          have : 1 * 10 ^ 8 ≤ (c.toNat - 48) * 10 ^ 8 := Nat.mul_le_mul_right _ (by omega)
          omega
      · rintro m σ H2 ⟨v, q, f, rfl, ⟨dx2, r2⟩, kp2, hq, hpq, hvg, hf, e2, rfl⟩
        have hs2 := Keep.seq h1 kp2 hs
        have ht2 := Keep.seq h1 kp2 ht
        -- behind the loop
        have done : (∀ c', B[q]? = some c' → ¬ (isDigit c' = true ∧ v ≠ 0 ∧ MM.begins g ts (10 * v + (c'.toNat - 48)) = true)) → (v = 0 ∨ sd B q = false) →
            (tSeq (tIfS (tTest (tOp (rIn K false) (tVar 3) (tVar 2))) (tRaise A.cF (spXI A) E (tCons (tFld K (tVar 0) "place") tNil)) tNext) (tRet (tVar 3))) { nx := fun _ H' => Q .non H', rt := Q } [some (.ref r), some (.int (g : Int)), some (.ref tk), some (.int (v : Int))] H2 := by
          intro st _
          have e3 : MM.numIn g ts p (B.drop p) = if (decide (v ≤ g) && !ts.contains v) = true then .ok (v, q, B.drop q) else .error q := by
            rw [e2]
            refine MM.fin_stop fun c' rr hb' => ?_
            have hc' : B[q]? = some c' := by
              have : (B.drop q)[0]? = some c' := by
                rw [hb']
                rfl
              rw [List.getElem?_drop] at this
              exact this
            exact st c' hc'
          rw [decide_eq_true hvg, Bool.true_and] at e3
          refine ⟨_, rfl, _, rfl, tk, _, rfl, .inl ht2, rfl, flat_nats ts, _, rfl, ?_⟩
          rw [in_nats]
          cases h2 : ts.contains v with
          | true =>
            rw [h2, if_neg (by decide)] at e3
            show _
            refine ⟨_, rfl, r, A.cR, dx2, _, _, rfl, r2, T.cR, T.nRp, rf_place a q, fun ea ne => ?_⟩
            refine ⟨ea, q, rfl, upd_same, fun dx' H' e1 e2' n kx => ⟨rfl, dx', _, e1, e2', k2 q (.inl e3) dx' _ ?_ (Keep.raised ne kp2 kx)⟩⟩
            rw [del_ne n]
            exact e2'
          | false =>
            rw [h2, if_pos (by decide)] at e3
            show _
            refine ⟨_, rfl, ?_⟩
            exact k1 v q e3 hq hpq H2 ⟨dx2, r2⟩ kp2
        refine ⟨_, rfl, _, _, rfl, rfl, _, rfl, ?_⟩
        by_cases hv : (0 : Int) < (v : Int)
        · rw [decide_eq_true hv]; refine iteT ?_
          refine ⟨_, rfl, r, dx2, _, rfl, r2, rf_no a q (by decide +kernel) (by decide +kernel), r, a, q, B, rfl, ⟨dx2, r2⟩, hs2, hq, _, rfl, ?_⟩
          cases hd2 : sd B q with
          | false =>
            refine iteF ?_
            refine done (fun c' hc' z => ?_) (.inr hd2)
            unfold sd at hd2
            rw [hc'] at hd2
            dsimp only at hd2
            rw [z.1] at hd2
            cases hd2
          | true =>
            refine iteT ?_
            obtain ⟨c', hc', hd'⟩ : ∃ c, B[q]? = some c ∧ isDigit c = true := by
              unfold sd at hd2
              cases z : B[q]? with
              | none =>
                rw [z] at hd2
                cases hd2
              | some c =>
                rw [z] at hd2
                exact ⟨c, rfl, hd2⟩
            have hgf : g < v * 10 ^ f := hf.resolve_left (by omega)
            refine ⟨fun σ' H' => ∃ m', m' < B.length - q ∧ ∃ (v q f : Nat), σ' = [some (.ref r), some (.int (g : Int)), some (.ref tk), some (.int (v : Int))] ∧ RdAt A H' r a q ∧ Keep r H H' ∧ q ≤ B.length ∧ p < q ∧ v ≤ g ∧ (v = 0 ∨ g < v * 10 ^ f) ∧
              MM.numIn g ts p (B.drop p) = MM.fin g ts q f v (B.drop q) ∧ m' = B.length - q, fun σ' H' z => z, ?_⟩
            refine ⟨_, rfl, _, rfl, _, _, rfl, rfl, .inl ⟨by omega, by omega⟩, _, rfl, _, rfl, r, a, tk, q, v * 10, g, B, ts, ?_, ⟨dx2, r2⟩, hs2, ht2, hq, hg, fun c2 hc2 hd3 hb2 H3 r3 kp3 => ?_, fun no => ?_⟩
            · show [V.ref r, V.int ((v : Int) * 10), V.int (g : Int), V.ref tk] = _
              rw [show (v : Int) * 10 = ((v * 10 : Nat) : Int) by omega]
            · rw [hc'] at hc2
              cases hc2
              rw [Nat.mul_comm v 10] at hb2
              obtain ⟨f', rfl, e4⟩ := MM.fin_step (q := q) (r := B.drop (q + 1)) hd' (show v ≠ 0 by omega) hb2 hgf
              have hql : q + 1 ≤ B.length := (List.getElem?_eq_some_iff.mp hc').1
              refine ⟨B.length - (q + 1), by omega, 10 * v + (c'.toNat - 48), q + 1, f', ?_, r3, kp2.trans kp3, hql, by omega, MM.begins_le hb2, .inr ?_, ?_, rfl⟩
              · rw [Nat.mul_comm v 10]
                rfl
              · have h' : g < v * 10 ^ f' * 10 := by
                  rw [Nat.mul_assoc, ← Nat.pow_succ]
                  exact hgf
                have : v * 10 ^ f' * 10 ≤ (10 * v + (c'.toNat - 48)) * 10 ^ f' := by
                  rw [Nat.mul_right_comm, Nat.mul_comm v 10]
                  exact Nat.mul_le_mul_right _ (by omega)
                omega
              · rw [e2, MM.drop_at hc']
                exact e4
            · refine Ex.at_ (k2 q ?_) kp2
              have e3 : MM.numIn g ts p (B.drop p) = if (decide (v ≤ g) && !ts.contains v) = true then .ok (v, q, B.drop q) else .error q := by
                rw [e2]
                refine MM.fin_stop fun c2 rr hb' z => ?_
                rw [MM.drop_at hc'] at hb'
                cases hb'
                rw [Nat.mul_comm v 10] at no
                exact no c' hc' ⟨z.1, z.2.2⟩
              by_cases z : (decide (v ≤ g) && !ts.contains v) = true
              · rw [if_pos z] at e3
                exact .inr ⟨v, c', e3, hc', hd'⟩
              · rw [if_neg z] at e3
                exact .inl e3
        · rw [decide_eq_false hv]; refine iteF ?_
          exact done (fun c' _ z => z.2.1 (by omega)) (.inl (by omega))
    · refine k2 p (.inl ?_)
      cases hc : B[p]? with
      | none =>
        rw [MM.drop_end hc]
        exact MM.num_nil
      | some c =>
        rw [MM.drop_at hc]
        refine MM.num_bad fun z => no c hc ?_
        rw [Nat.zero_add]
        exact z
/-! ### read_line -/
def numOf (g : Nat) (df : Bool) : List Nat → Nat → Bytes → In Nat := fun ns => MM.numIn g (if df = true then ns else [])
def spRl (A : Adr) (K : PySem.W.Frag) : Sp := fun vs H Q E => ∃ (r a : Addr) (p g : Nat) (df : Bool) (B : Bytes) (c : UInt8), vs = [.ref r, .int (c.toNat : Int), .int (g : Int), .bl df] ∧ RdAt A H r a p ∧ SqL K H a (B.map bV) ∧ B[p]? = some c ∧ g ≤ 65535 ∧
  (∀ (xs : List Nat) (q : Nat), MM.numsIn (numOf g df) 3 [] (p + 1) (B.drop (p + 1)) = .ok (xs, q, B.drop q) → xs.length = 3 → q ≤ B.length → p < q → ∀ (H' : Hp) (t : Addr), RdAt A H' r a q → H' t = some (.tup (xs.map nV)) → Keep r H H' → Q (.ref t) H') ∧
  (∀ q : Nat, MM.numsIn (numOf g df) 3 [] (p + 1) (B.drop (p + 1)) = .error q → Ex A r H E q)
theorem scRl : FnScope ["reader", "sign", "greatest", "differ", "numbers", "taken"] ["reader", "sign", "greatest", "differ"] (defScope sRl) := ⟨rfl, rfl, rfl, by decide +kernel, rfl, by decide +kernel, by decide +kernel⟩
theorem ok_rl (T : Txt K mg A) : ∃ fd, FnOk P w K mg base (CXE P w) 9 A.fRl fd ["reader", "sign", "greatest", "differ"] (spRl A K) ∧ Binds K fd ["reader", "sign", "greatest", "differ"] [] ∧ PySem.W.keepIn K (.ref A.fRl) = true := by
  obtain ⟨fd, F, b⟩ := T.bRl
  obtain ⟨fdK, GK, bK⟩ := ok_skip (P := P) (w := w) (base := base) T
  obtain ⟨fdN, GN, bN, kN⟩ := ok_rn (P := P) (w := w) (base := base) T
  refine ⟨fd, F.okE scRl (fun vs H Q E h => ?_) (fun cdv A' outer s H vs Q E hr h => ?_), b, F.kp⟩
  · obtain ⟨r, a, p, g, df, B, c, rfl, _⟩ := h
    rfl
  · obtain ⟨r, a, p, g, df, B, c, rfl, ⟨dx, h1⟩, hs, hc, hg, k1, k2⟩ := h
    have hpl : p < B.length := (List.getElem?_eq_some_iff.mp hc).1
    have hr3 := hr.mono (show 3 ≤ 8 by decide)
    refine ⟨_, pss_cons (ps_expr (pe_meth (pv 0) T.cR T.mSkip GK hr3 bK .nil pass_up (pa_cons (pv 1) pa_nil)))
      (pss_cons (ps_set (i := 4) scRl.nd rfl (Or.inl rfl) (pe_lst pa_nil))
      (pss_cons (ps_while pass_own (pt_cmpR op_lt (pe_callB call_len_seq (by rfl) T.len PySem.boot_len (pa_cons (pv 4) pa_nil)) pe_int (nomark _))
        (pss_cons (ps_expr (pe_meth (pv 0) T.cR T.mSkip GK hr3 bK .nil pass_up (pa_cons (pe_num (by rfl) T.nB) pa_nil)))
        (pss_cons (ps_set (i := 5) scRl.nd rfl (Or.inl rfl) (pe_ifExp (pt_val (pv 3)) (pv 4) (pe_lst pa_nil)))
        (pss_one (ps_expr (pe_bm PySem.F.plainAttrs_list PySem.F.slot_list_append PySem.F.type_list_append mt_append (pv 4) (pa_cons (pe_call GN hr (by rfl) T.gRn kN bN .nil pass_up (pa_cons (pv 0) (pa_cons (pv 2) (pa_cons (pv 5) pa_nil)))) pa_nil)))))))
      (pss_cons (ps_expr (pe_meth (pv 0) T.cR T.mSkip GK hr3 bK .nil pass_up (pa_cons (pe_num (by rfl) T.nLE) pa_nil)))
      (pss_one (ps_ret (pe_callTy call_tuple_of (by rfl) T.tuple boot_tuple (pa_cons (pv 4) pa_nil))))))), ?_⟩
    refine ⟨_, rfl, r, dx, _, rfl, h1, rf_no a p (by decide +kernel) (by decide +kernel), _, rfl, r, a, p, B, c, rfl, ⟨dx, h1⟩, hs, Nat.le_of_lt hpl, fun _ H1 r1 kp1 => ?_, fun z => absurd hc z⟩
    refine ⟨Nat.zero_le _, fun l hl => ?_⟩
    have kp2 : Keep r H (upd H1 l (.lst [])) := fun b o q n => by
      have z := kp1 b o q n
      rw [upd_ne (ne_of_none z hl)]
      exact z
    obtain ⟨dx1, r1⟩ := r1
    refine ⟨fun m σ H2 => ∃ (xs : List Nat) (q : Nat) (tk : Option V), σ = [some (.ref r), some (.int (c.toNat : Int)), some (.int (g : Int)), some (.bl df), some (.ref l), tk] ∧ H2 l = some (.lst (xs.map nV)) ∧ RdAt A H2 r a q ∧ Keep r H H2 ∧ xs.length ≤ 3 ∧ q ≤ B.length ∧ p < q ∧
        MM.numsIn (numOf g df) 3 [] (p + 1) (B.drop (p + 1)) = MM.numsIn (numOf g df) (3 - xs.length) xs q (B.drop q) ∧ m = 3 - xs.length,
      ⟨3, [], p + 1, none, rfl, upd_same, ⟨dx1, by rw [upd_ne (ne_of_none r1 hl)]; exact r1⟩, kp2, by decide, hpl, by omega, rfl, rfl⟩, ?_⟩
    rintro m σ H2 ⟨xs, q, tk, rfl, l2, ⟨dx2, r2⟩, kp2', hx, hq, hpq, e2, rfl⟩
    have hs2 := Keep.seq h1 kp2' hs
    have nlr : l ≠ r := ne_of l2 r2 (by intro z; cases z)
    refine ⟨_, rfl, l, _, rfl, .inl (SqL.of l2), _, _, rfl, rfl, _, rfl, ?_⟩
    rw [List.length_map]
    by_cases hlt : xs.length < 3
    · rw [decide_eq_true (show (xs.length : Int) < 3 by omega)]; refine iteT ?_
      obtain ⟨k, hk⟩ : ∃ k, 3 - xs.length = k + 1 := ⟨3 - xs.length - 1, by omega⟩
      rw [hk] at e2
      refine ⟨fun σ' H' => ∃ m', m' < 3 - xs.length ∧ ∃ (xs : List Nat) (q : Nat) (tk : Option V), σ' = [some (.ref r), some (.int (c.toNat : Int)), some (.int (g : Int)), some (.bl df), some (.ref l), tk] ∧ H' l = some (.lst (xs.map nV)) ∧ RdAt A H' r a q ∧ Keep r H H' ∧ xs.length ≤ 3 ∧ q ≤ B.length ∧ p < q ∧
        MM.numsIn (numOf g df) 3 [] (p + 1) (B.drop (p + 1)) = MM.numsIn (numOf g df) (3 - xs.length) xs q (B.drop q) ∧ m' = 3 - xs.length, fun σ' H' z => z, ?_⟩
      refine ⟨_, rfl, r, dx2, _, rfl, r2, rf_no a q (by decide +kernel) (by decide +kernel), r, a, q, B, 32, rfl, ⟨dx2, r2⟩, hs2, hq, fun hb H3 r3 kp3 => ?_, fun hb => Ex.at_ (k2 q ?_) kp2'⟩
      · obtain ⟨dx3, r3⟩ := r3
        have hq1 : q + 1 ≤ B.length := (List.getElem?_eq_some_iff.mp hb).1
        have l3 : H3 l = some (.lst (xs.map nV)) := kp3 _ _ l2 nlr
        have e3 : MM.numsIn (numOf g df) (k + 1) xs q (B.drop q) = (match numOf g df xs (q + 1) (B.drop (q + 1)) with
            | .error e => .error e
            | .ok (v, q', r') => MM.numsIn (numOf g df) k (xs ++ [v]) q' r') := by
          show (match Bead.byteIn 32 q (B.drop q) with
            | .error e => (Except.error e : In (List Nat))
            | .ok (_, q, r) => match numOf g df xs q r with
              | .error e => (Except.error e : In (List Nat))
              | .ok (v, q', r') => MM.numsIn (numOf g df) k (xs ++ [v]) q' r') = _
          rw [MM.byte_ok hb]
        have go : ∀ (H4 : Hp) (tka : Addr), SqL K H4 tka ((if df = true then xs else []).map nV) → Same H3 H4 →
            (tDrop (tBM K "list" rAppend (tVar 4) (tCons (tCall (spRn A K) [] E (tCons (tVar 0) (tCons (tVar 2) (tCons (tVar 5) tNil)))) tNil)))
              { nx := fun σ' H' => ∃ m', m' < 3 - xs.length ∧ ∃ (xs : List Nat) (q : Nat) (tk : Option V), σ' = [some (.ref r), some (.int (c.toNat : Int)), some (.int (g : Int)), some (.bl df), some (.ref l), tk] ∧ H' l = some (.lst (xs.map nV)) ∧ RdAt A H' r a q ∧ Keep r H H' ∧ xs.length ≤ 3 ∧ q ≤ B.length ∧ p < q ∧
                MM.numsIn (numOf g df) 3 [] (p + 1) (B.drop (p + 1)) = MM.numsIn (numOf g df) (3 - xs.length) xs q (B.drop q) ∧ m' = 3 - xs.length, rt := Q }
              [some (.ref r), some (.int (c.toNat : Int)), some (.int (g : Int)), some (.bl df), some (.ref l), some (.ref tka)] H4 := by
          intro H4 tka ht s4
          have r4 := s4 _ _ r3
          have l4 := s4 _ _ l3
          have kp4 : Keep r H H4 := fun b o q n => s4 _ _ (kp3 b o (kp2' b o q n) n)
          refine ⟨_, rfl, .inl ⟨rfl, _, SqL.of l4⟩, _, rfl, _, rfl, _, rfl, r, a, tka, q + 1, g, B, if df = true then xs else [], rfl, ⟨dx3, r4⟩, Keep.seq h1 kp4 hs, ht, hq1, hg, fun v q' ev hq' hlt' H5 r5 kp5 => ?_, fun q' hq' => Ex.at_ (k2 q' ?_) kp4⟩
          · have l5 : H5 l = some (.lst (xs.map nV)) := kp5 _ _ l4 nlr
            obtain ⟨dx5, r5⟩ := r5
            refine ⟨l, _, _, rfl, rfl, l5, ?_, ?_⟩
            · rw [List.length_map]
              exact Nat.lt_trans hlt (by show 3 < sizeLine; decide)
            · refine ⟨3 - (xs ++ [v]).length, by rw [List.length_append, List.length_singleton]; omega, xs ++ [v], q', _, rfl, ?_, ⟨dx5, ?_⟩, fun b o z n => ?_, by rw [List.length_append, List.length_singleton]; omega, hq', by omega, ?_, rfl⟩
              · rw [upd_same, List.map_append]
                rfl
              · rw [upd_ne (Ne.symm nlr)]
                exact r5
              · have z' := kp5 _ _ (kp4 b o z n) n
                have nb : b ≠ l := ne_of_none (kp1 b o z n) hl
                rw [upd_ne nb]
                exact z'
              · rw [e2, e3]
                have ev' : numOf g df xs (q + 1) (B.drop (q + 1)) = .ok (v, q', B.drop q') := ev
                rw [ev', List.length_append, List.length_singleton, show 3 - (xs.length + 1) = k by omega]
          · rw [e2, e3]
            rcases hq' with ev | ⟨v, c', ev, hc', hd'⟩
            · have ev' : numOf g df xs (q + 1) (B.drop (q + 1)) = .error q' := ev
              rw [ev']
            · have ev' : numOf g df xs (q + 1) (B.drop (q + 1)) = .ok (v, q', B.drop q') := ev
              rw [ev']
              have n10 : B[q']? ≠ some 10 := by
                intro z
                rw [hc'] at z
                cases z
                revert hd'
                decide
              have n32 : B[q']? ≠ some 32 := by
                intro z
                rw [hc'] at z
                cases z
                revert hd'
                decide
              cases k with
              | zero =>
                show (match Bead.byteIn 10 q' (B.drop q') with
                  | .error e => (Except.error e : In (List Nat))
                  | .ok (_, q, r) => (Except.ok (xs ++ [v], q, r) : In (List Nat))) = _
                rw [MM.byte_bad n10]
              | succ k =>
                show (match Bead.byteIn 32 q' (B.drop q') with
                  | .error e => (Except.error e : In (List Nat))
                  | .ok (_, q, r) => match numOf g df (xs ++ [v]) q r with
                    | .error e => (Except.error e : In (List Nat))
                    | .ok (v', q', r') => MM.numsIn (numOf g df) k (xs ++ [v] ++ [v']) q' r') = _
                rw [MM.byte_bad n32]
        refine ⟨_, rfl, _, rfl, ?_⟩
        cases df with
        | true =>
          refine iteT ?_
          exact ⟨_, rfl, go H3 l (SqL.of l3) (Same.refl _)⟩
        | false =>
          refine iteF ?_
          refine ⟨Nat.zero_le _, fun l' hl' => ?_⟩
          exact go _ l' (SqL.of upd_same) fun b o z => by rw [upd_ne (ne_of_none z hl')]; exact z
      · rw [e2]
        show (match Bead.byteIn 32 q (B.drop q) with
          | .error e => (Except.error e : In (List Nat))
          | .ok (_, q, r) => match numOf g df xs q r with
            | .error e => (Except.error e : In (List Nat))
            | .ok (v, q', r') => MM.numsIn (numOf g df) k (xs ++ [v]) q' r') = _
        rw [MM.byte_bad hb]
    · rw [decide_eq_false (show ¬ (xs.length : Int) < 3 by omega)]; refine iteF ?_
      have h3 : xs.length = 3 := by omega
      rw [h3, Nat.sub_self] at e2
      refine ⟨_, rfl, r, dx2, _, rfl, r2, rf_no a q (by decide +kernel) (by decide +kernel), r, a, q, B, 10, rfl, ⟨dx2, r2⟩, hs2, hq, fun hb H3 r3 kp3 => ?_, fun hb => Ex.at_ (k2 q ?_) kp2'⟩
      · have l3 : H3 l = some (.lst (xs.map nV)) := kp3 _ _ l2 nlr
        have hq1 : q + 1 ≤ B.length := (List.getElem?_eq_some_iff.mp hb).1
        refine ⟨_, rfl, l, _, rfl, .inl ⟨SqL.of l3, fun t ht => ?_⟩⟩
        obtain ⟨dx3, r3⟩ := r3
        refine k1 xs (q + 1) ?_ h3 hq1 (by omega) _ t ⟨dx3, by rw [upd_ne (ne_of_none r3 ht)]; exact r3⟩ upd_same fun b o z n => ?_
        · rw [e2]
          show (match Bead.byteIn 10 q (B.drop q) with
            | .error e => (Except.error e : In (List Nat))
            | .ok (_, q, r) => (Except.ok (xs, q, r) : In (List Nat))) = _
          rw [MM.byte_ok hb]
        · have z' := kp3 _ _ (kp2' b o z n) n
          rw [upd_ne (ne_of_none z' ht)]
          exact z'
      · rw [e2]
        show (match Bead.byteIn 10 q (B.drop q) with
          | .error e => (Except.error e : In (List Nat))
          | .ok (_, q, r) => (Except.ok (xs, q, r) : In (List Nat))) = _
        rw [MM.byte_bad hb]
/-! ### a mesh in the heap -/
def TupsAt (H : Hp) : List Addr → List (List Nat) → Prop
  | [], [] => True
  | a :: as, x :: xs => H a = some (.tup (x.map nV)) ∧ TupsAt H as xs
  | _, _ => False
theorem TupsAt.snoc {H : Hp} {t : Addr} {x : List Nat} (ht : H t = some (.tup (x.map nV))) : ∀ {as : List Addr} {xs : List (List Nat)}, TupsAt H as xs → TupsAt H (as ++ [t]) (xs ++ [x])
  | [], [], _ => ⟨ht, trivial⟩
  | _ :: _, _ :: _, ⟨h1, h2⟩ => ⟨h1, TupsAt.snoc ht h2⟩
  | [], _ :: _, h => h.elim
  | _ :: _, [], h => h.elim
theorem TupsAt.mono {H H' : Hp} (k : ∀ b ys, H b = some (.tup ys) → H' b = some (.tup ys)) : ∀ {as : List Addr} {xs : List (List Nat)}, TupsAt H as xs → TupsAt H' as xs
  | [], [], _ => trivial
  | _ :: _, _ :: _, ⟨h1, h2⟩ => ⟨k _ _ h1, TupsAt.mono k h2⟩
  | [], _ :: _, h => h.elim
  | _ :: _, [], h => h.elim
theorem TupsAt.len {H : Hp} : ∀ {as : List Addr} {xs : List (List Nat)}, TupsAt H as xs → as.length = xs.length
  | [], [], _ => rfl
  | _ :: _, _ :: _, ⟨_, h2⟩ => by
    rw [List.length_cons, List.length_cons, TupsAt.len h2]
  | [], _ :: _, h => h.elim
  | _ :: _, [], h => h.elim
structure MeshOf (A : Adr) (H : Hp) (m dm cl tl : Addr) (cas tas : List Addr) (cs fs : List (List Nat)) : Prop where
  ins : H m = some (.ins A.cM dm (mf cl tl))
  c : H cl = some (.lst (cas.map V.ref))
  t : H tl = some (.lst (tas.map V.ref))
  ne : cl ≠ tl
  cT : TupsAt H cas cs
  tT : TupsAt H tas fs
def MeshAt (A : Adr) (H : Hp) (m : Addr) (cs fs : List (List Nat)) : Prop := ∃ dm cl tl cas tas, MeshOf A H m dm cl tl cas tas cs fs
theorem mf_rf {c t a : Addr} {p : Nat} {C D d e : Addr} : HO.ins C d (mf c t) ≠ HO.ins D e (rf a p) := by
  intro z
  have z' : mf c t = rf a p := by
    injection z
  have q := mf_c c t
  rw [z', rf_no a p (by decide +kernel) (by decide +kernel)] at q
  cases q
theorem MeshOf.keep {H H' : Hp} {m dm cl tl r a : Addr} {p : Nat} {cas tas : List Addr} {cs fs : List (List Nat)} (M : MeshOf A H m dm cl tl cas tas cs fs) (hr : RdAt A H r a p) (k : Keep r H H') : MeshOf A H' m dm cl tl cas tas cs fs := by
  obtain ⟨dx, hr⟩ := hr
  have kt : ∀ b ys, H b = some (.tup ys) → H' b = some (.tup ys) := fun b ys e => k _ _ e (ne_of e hr (by intro z; cases z))
  exact ⟨k _ _ M.ins (ne_of M.ins hr mf_rf), k _ _ M.c (ne_of M.c hr (by intro z; cases z)), k _ _ M.t (ne_of M.t hr (by intro z; cases z)), M.ne, M.cT.mono kt, M.tT.mono kt⟩
/-! ### takes_corner, takes_triangle -/
def spTc (A : Adr) : Sp := fun vs H Q _ => ∃ (m : Addr) (cs fs : List (List Nat)), vs = [.ref m] ∧ MeshAt A H m cs fs ∧ Q (.bl (decide (cs.length < 64) && decide (fs.length = 0))) H
theorem scTc : FnScope ["mesh"] ["mesh"] (defScope sTc) := ⟨rfl, rfl, rfl, by decide +kernel, rfl, by decide +kernel, by decide +kernel⟩
theorem ok_tc (T : Txt K mg A) : ∃ fd, FnOk P w K mg base CX0 1 A.fTc fd ["mesh"] (spTc A) ∧ Binds K fd ["mesh"] [] ∧ PySem.W.keepIn K (.ref A.fTc) = true := by
  obtain ⟨fd, F, b⟩ := T.bTc
  refine ⟨fd, F.ok scTc (fun vs H Q E h => ?_) (fun cdv A' outer s H vs Q E hr h => ?_), b, F.kp⟩
  · obtain ⟨m, cs, fs, rfl, _⟩ := h
    rfl
  · obtain ⟨m, cs, fs, rfl, ⟨dm, cl, tl, cas, tas, M⟩, k⟩ := h
    refine ⟨_, pss_one (ps_ret (pe_and (pe_cmpR op_lt (pe_callB call_len_seq (by rfl) T.len PySem.boot_len (pa_cons (pe_fld (pv 0) rfl) pa_nil)) (pe_num (by rfl) T.n64) (nomark _))
      (pe_one (pe_cmp (pc_eqI (pe_callB call_len_seq (by rfl) T.len PySem.boot_len (pa_cons (pe_fld (pv 0) rfl) pa_nil)) pe_int))))), ?_⟩
    refine ⟨_, rfl, m, A.cM, dm, _, _, rfl, M.ins, T.cM, T.nMc, mf_c cl tl, cl, _, rfl, .inl (SqL.of M.c), _, _, rfl, rfl, _, rfl, ?_⟩
    have e1 : decide (((cas.map V.ref).length : Int) < 64) = decide (cs.length < 64) := by
      rw [List.length_map, M.cT.len, decide_eq_decide]
      omega
    have e2 : decide (((tas.map V.ref).length : Int) = 0) = decide (fs.length = 0) := by
      rw [List.length_map, M.tT.len, decide_eq_decide]
      omega
    rw [e1]
    cases h1 : decide (cs.length < 64) with
    | false =>
      refine iteF ?_
      rw [h1] at k
      exact k
    | true =>
      refine iteT ?_
      rw [h1, Bool.true_and] at k
      refine ⟨_, rfl, m, A.cM, dm, _, _, rfl, M.ins, T.cM, T.nMt, mf_t cl tl, tl, _, rfl, .inl (SqL.of M.t), _, _, rfl, rfl, ?_⟩
      show Q (.bl (decide (((tas.map V.ref).length : Int) = 0))) H
      rw [e2]
      exact k
def spTt (A : Adr) : Sp := fun vs H Q _ => ∃ (m : Addr) (cs fs : List (List Nat)), vs = [.ref m] ∧ MeshAt A H m cs fs ∧ Q (.bl (decide (3 ≤ cs.length) && decide (fs.length < 128))) H
theorem scTt : FnScope ["mesh"] ["mesh"] (defScope sTt) := ⟨rfl, rfl, rfl, by decide +kernel, rfl, by decide +kernel, by decide +kernel⟩
theorem ok_tt (T : Txt K mg A) : ∃ fd, FnOk P w K mg base CX0 1 A.fTt fd ["mesh"] (spTt A) ∧ Binds K fd ["mesh"] [] ∧ PySem.W.keepIn K (.ref A.fTt) = true := by
  obtain ⟨fd, F, b⟩ := T.bTt
  refine ⟨fd, F.ok scTt (fun vs H Q E h => ?_) (fun cdv A' outer s H vs Q E hr h => ?_), b, F.kp⟩
  · obtain ⟨m, cs, fs, rfl, _⟩ := h
    rfl
  · obtain ⟨m, cs, fs, rfl, ⟨dm, cl, tl, cas, tas, M⟩, k⟩ := h
    refine ⟨_, pss_one (ps_ret (pe_and (pe_cmpR op_ge (pe_callB call_len_seq (by rfl) T.len PySem.boot_len (pa_cons (pe_fld (pv 0) rfl) pa_nil)) pe_int (nomark _))
      (pe_one (pe_cmpR op_lt (pe_callB call_len_seq (by rfl) T.len PySem.boot_len (pa_cons (pe_fld (pv 0) rfl) pa_nil)) (pe_num (by rfl) T.n128) (nomark _))))), ?_⟩
    refine ⟨_, rfl, m, A.cM, dm, _, _, rfl, M.ins, T.cM, T.nMc, mf_c cl tl, cl, _, rfl, .inl (SqL.of M.c), _, _, rfl, rfl, _, rfl, ?_⟩
    have e1 : decide ((3 : Int) ≤ ((cas.map V.ref).length : Int)) = decide (3 ≤ cs.length) := by
      rw [List.length_map, M.cT.len, decide_eq_decide]
      omega
    have e2 : decide (((tas.map V.ref).length : Int) < 128) = decide (fs.length < 128) := by
      rw [List.length_map, M.tT.len, decide_eq_decide]
      omega
    rw [e1]
    cases h1 : decide (3 ≤ cs.length) with
    | false =>
      refine iteF ?_
      rw [h1] at k
      exact k
    | true =>
      refine iteT ?_
      rw [h1, Bool.true_and] at k
      refine ⟨_, rfl, m, A.cM, dm, _, _, rfl, M.ins, T.cM, T.nMt, mf_t cl tl, tl, _, rfl, .inl (SqL.of M.t), _, _, rfl, rfl, ?_⟩
      show Q (.bl (decide (((tas.map V.ref).length : Int) < 128))) H
      rw [e2]
      exact k
/-! ### read_mesh -/
def spRm (A : Adr) (K : PySem.W.Frag) : Sp := fun vs H Q E => ∃ (a : Addr) (B : Bytes), vs = [.ref a] ∧ SqL K H a (B.map bV) ∧
  (∀ (cs fs : List (List Nat)), Bead.readMesh B = .ok ⟨cs.map MM.cornerOf, fs.map MM.faceOf⟩ → (∀ x ∈ cs, x.length = 3) → (∀ x ∈ fs, x.length = 3) → cs.length ≤ 64 → fs.length ≤ 128 → ∀ (H' : Hp) (m : Addr), MeshAt A H' m cs fs → Same H H' → Q (.ref m) H') ∧
  (∀ q : Nat, Bead.readMesh B = .error q → ExM A H E q)
theorem scRm : FnScope ["signs", "mesh", "reader"] ["signs"] (defScope sRm) := ⟨rfl, rfl, rfl, by decide +kernel, rfl, by decide +kernel, by decide +kernel⟩
theorem ok_rm (T : Txt K mg A) : ∃ fd, FnOk P w K mg base (CXE P w) 10 A.fRm fd ["signs"] (spRm A K) ∧ Binds K fd ["signs"] [] ∧ PySem.W.keepIn K (.ref A.fRm) = true := by
  obtain ⟨fd, F, b⟩ := T.bRm
  obtain ⟨fdM, GM, bM⟩ := ok_mi (P := P) (w := w) (base := base) T
  obtain ⟨fdI, GI, bI⟩ := ok_ri (P := P) (w := w) (base := base) T
  obtain ⟨fdA, GA, bA⟩ := ok_at (P := P) (w := w) (base := base) T
  obtain ⟨fdS, GS, bS⟩ := ok_see (P := P) (w := w) (base := base) T
  obtain ⟨fdC, GC, bC, kC⟩ := ok_tc (P := P) (w := w) (base := base) T
  obtain ⟨fdT, GT, bT, kT⟩ := ok_tt (P := P) (w := w) (base := base) T
  obtain ⟨fdX, GX, bX⟩ := ok_xi (P := P) (w := w) (base := base) T
  obtain ⟨fdL, GL, bL, kL⟩ := ok_rl (P := P) (w := w) (base := base) T
  refine ⟨fd, F.okE scRm (fun vs H Q E h => ?_) (fun cdv A' outer s H vs Q E hr h => ?_), b, F.kp⟩
  · obtain ⟨a, B, rfl, _⟩ := h
    rfl
  · obtain ⟨a, B, rfl, hs, k1, k2⟩ := h
    have hr2 := hr.mono (show 2 ≤ 9 by decide)
    have hr1 := hr.mono (show 1 ≤ 9 by decide)
    refine ⟨_, pss_cons (ps_set (i := 1) scRm.nd rfl (Or.inl rfl) (pe_make T.mkM GM hr2 (by rfl) T.gM bM .nil pass0 (pa_cons (pe_lst pa_nil) (pa_cons (pe_lst pa_nil) pa_nil))))
      (pss_cons (ps_set (i := 2) scRm.nd rfl (Or.inl rfl) (pe_make T.mkR GI hr2 (by rfl) T.gR bI .nil pass0 (pa_cons (pv 0) pa_nil)))
      (pss_cons (ps_while pass_own (pt_not (pt_val (pe_meth0 (pv 2) T.cR T.mAt GA hr1 bA .nil pass0)))
        (pss_one (ps_if (pw_and (pt_val (pe_meth (pv 2) T.cR T.mSee GS hr2 bS .nil pass0 (pa_cons (pe_num (by rfl) T.nC) pa_nil))) (pw_and1 (pt_val (pe_call GC hr1 (by rfl) T.gTc kC bC .nil pass0 (pa_cons (pv 1) pa_nil))))).pt
          (pss_one (ps_expr (pe_bm PySem.F.plainAttrs_list PySem.F.slot_list_append PySem.F.type_list_append mt_append (pe_fld (pv 1) rfl) (pa_cons (pe_call GL hr (by rfl) T.gRl kL bL .nil pass_up (pa_cons (pv 2) (pa_cons (pe_num (by rfl) T.nC) (pa_cons (pe_num (by rfl) T.nG) (pa_cons pe_bl pa_nil))))) pa_nil))))
          (pss_one (ps_if (pw_and (pt_val (pe_meth (pv 2) T.cR T.mSee GS hr2 bS .nil pass0 (pa_cons (pe_num (by rfl) T.nT) pa_nil))) (pw_and1 (pt_val (pe_call GT hr1 (by rfl) T.gTt kT bT .nil pass0 (pa_cons (pv 1) pa_nil))))).pt
            (pss_one (ps_expr (pe_bm PySem.F.plainAttrs_list PySem.F.slot_list_append PySem.F.type_list_append mt_append (pe_fld (pv 1) rfl) (pa_cons (pe_call GL hr (by rfl) T.gRl kL bL .nil pass_up (pa_cons (pv 2) (pa_cons (pe_num (by rfl) T.nT)
              (pa_cons (pe_op op_sub (pe_callB call_len_seq (by rfl) T.len PySem.boot_len (pa_cons (pe_fld (pv 1) rfl) pa_nil)) pe_int) (pa_cons pe_bl pa_nil))))) pa_nil))))
            (pss_one (ps_raise T.exF GX hr2 (by rfl) T.gF bX (pa_cons (pe_fld (pv 2) rfl) pa_nil))))))))
      (pss_one (ps_ret (pv 1))))), ?_⟩
    -- mesh = Mesh([], [])
    refine ⟨Nat.zero_le _, fun cl hcl => ⟨Nat.zero_le _, fun tl htl => ?_⟩⟩
    intro x0 d0 n0 m0 e0
    refine ⟨x0, d0, cl, tl, rfl, upd_same, fun H1 i1 kp1 => ⟨rfl, ?_⟩⟩
    have s0 : Same H (upd (upd H cl (.lst [])) tl (.lst [])) := fun b o q => by
      have q1 : upd H cl (.lst []) b = some o := by rw [upd_ne (ne_of_none q hcl)]; exact q
      rw [upd_ne (ne_of_none q1 htl)]
      exact q1
    have s1 : Same (upd (upd H cl (.lst [])) tl (.lst [])) H1 := Same.made n0 m0 kp1
    have ct : cl ≠ tl := ne_of_none (upd_same : upd H cl (.lst []) cl = _) htl
    have c1 : H1 cl = some (.lst (([] : List Addr).map V.ref)) := s1 _ _ (by rw [upd_ne ct]; exact upd_same)
    have t1 : H1 tl = some (.lst (([] : List Addr).map V.ref)) := s1 _ _ upd_same
    -- reader = Reader(signs)
    refine ⟨_, rfl, ?_⟩
    intro x2 d2 n2 m2 e2
    refine ⟨x2, d2, a, rfl, upd_same, fun H2 r2 kp2 => ⟨rfl, ?_⟩⟩
    have s2 : Same H1 H2 := Same.made n2 m2 kp2
    have s02 : Same H H2 := (s0.trans s1).trans s2
    refine ⟨fun μ σ H3 => ∃ (cas tas : List Addr) (cs fs : List (List Nat)) (q f : Nat), σ = [some (.ref a), some (.ref x0), some (.ref x2)] ∧ MeshOf A H3 x0 d0 cl tl cas tas cs fs ∧ RdAt A H3 x2 a q ∧ Same H H3 ∧ q ≤ B.length ∧ B.length - q < f ∧
        (∀ x ∈ cs, x.length = 3) ∧ (∀ x ∈ fs, x.length = 3) ∧ cs.length ≤ 64 ∧ fs.length ≤ 128 ∧ Bead.readMesh B = Bead.meshFrom f q (cs.map MM.cornerOf).reverse (fs.map MM.faceOf).reverse (B.drop q) ∧ μ = B.length - q,
      ⟨B.length - 0, [], [], [], [], 0, B.length + 1, rfl, ⟨s2 _ _ i1, s2 _ _ c1, s2 _ _ t1, ct, trivial, trivial⟩, r2, s02, Nat.zero_le _, by omega, (by intro x hx; cases hx), (by intro x hx; cases hx), Nat.zero_le _, Nat.zero_le _, rfl, rfl⟩, ?_⟩
    rintro μ σ H3 ⟨cas, tas, cs, fs, q, f, rfl, M, ⟨dx, r3⟩, s3, hq, hf, hc3, hf3, hc64, hf128, e3, rfl⟩
    have hs3 := s3.seq hs
    have RM : MeshAt A H3 x0 cs fs := ⟨d0, cl, tl, cas, tas, M⟩
    refine ⟨_, rfl, x2, dx, _, rfl, r3, rf_no a q (by decide +kernel) (by decide +kernel), x2, a, q, B, rfl, ⟨dx, r3⟩, hs3, _, rfl, ?_⟩
    obtain ⟨f', rfl⟩ : ∃ f', f = f' + 1 := ⟨f - 1, by omega⟩
    by_cases hend : q = B.length
    · rw [decide_eq_true hend]
      show _
      refine ⟨_, rfl, ?_⟩
      refine k1 cs fs ?_ hc3 hf3 hc64 hf128 H3 x0 RM s3
      rw [e3, hend, List.drop_length, MM.mesh_end, List.reverse_reverse, List.reverse_reverse]
    · rw [decide_eq_false hend]
      have hlt : q < B.length := by omega
      obtain ⟨c, hc⟩ : ∃ c, B[q]? = some c := ⟨_, List.getElem?_eq_getElem hlt⟩
      show _
      refine ⟨fun σ' H' => ∃ μ', μ' < B.length - q ∧ ∃ (cas tas : List Addr) (cs fs : List (List Nat)) (q f : Nat), σ' = [some (.ref a), some (.ref x0), some (.ref x2)] ∧ MeshOf A H' x0 d0 cl tl cas tas cs fs ∧ RdAt A H' x2 a q ∧ Same H H' ∧ q ≤ B.length ∧ B.length - q < f ∧
        (∀ x ∈ cs, x.length = 3) ∧ (∀ x ∈ fs, x.length = 3) ∧ cs.length ≤ 64 ∧ fs.length ≤ 128 ∧ Bead.readMesh B = Bead.meshFrom f q (cs.map MM.cornerOf).reverse (fs.map MM.faceOf).reverse (B.drop q) ∧ μ' = B.length - q, fun σ' H' z => z, ?_⟩
      have kq : Keep x2 H3 H3 := Keep.refl _ _
      have hx2 : H x2 = none := by
        cases z : H x2 with
        | none => rfl
        | some o =>
          have z' := (s0.trans s1) _ _ z
          rw [n2] at z'
          cases z'
      have up : ∀ {H4 : Hp}, Keep x2 H3 H4 → Same H H4 := fun {H4} k b o z => k b o (s3 b o z) (ne_of_none z hx2)
      -- where neither line may stand
      have bad : ¬ (c = 118 ∧ (fs.map MM.faceOf).reverse = [] ∧ (cs.map MM.cornerOf).reverse.length < 64) → ¬ (c = 116 ∧ 3 ≤ (cs.map MM.cornerOf).reverse.length ∧ (fs.map MM.faceOf).reverse.length < 128) → Bead.readMesh B = .error q := fun z1 z2 => by
        rw [e3, MM.drop_at hc]
        exact MM.mesh_bad z1 z2
      have lc : (cs.map MM.cornerOf).reverse.length = cs.length := by rw [List.length_reverse, List.length_map]
      have lf : (fs.map MM.faceOf).reverse.length = fs.length := by rw [List.length_reverse, List.length_map]
      have fnil : ((fs.map MM.faceOf).reverse = []) ↔ fs.length = 0 := by
        rw [← lf, List.length_eq_zero_iff]
      -- the second test
      have second : ¬ (c = 118 ∧ cs.length < 64 ∧ fs.length = 0) →
          (tIfS (tAnd (tB (tMeth A.cR "sees" (spSee A K) [] E0 (tVar 2) (tCons (tC (.int 116)) tNil))) (tB (tCall (spTt A) [] E0 (tCons (tVar 1) tNil))))
            (tDrop (tBM K "list" rAppend (tFld K (tVar 1) "triangles") (tCons (tCall (spRl A K) [] E (tCons (tVar 2) (tCons (tC (.int 116)) (tCons (tOp (rI0 fun i j => .int (i - j)) (tCB (fun xs H Q => ∃ p ys, xs = [.ref p] ∧ (SqL K H p ys ∨ SqT K H p ys) ∧ Q (.int ys.length) H) (tCons (tFld K (tVar 1) "corners") tNil)) (tC (.int 1))) (tCons (tC (.bl true)) tNil))))) tNil)))
            (tRaise A.cF (spXI A) E (tCons (tFld K (tVar 2) "place") tNil)))
            { nx := fun σ' H' => ∃ μ', μ' < B.length - q ∧ ∃ (cas tas : List Addr) (cs fs : List (List Nat)) (q f : Nat), σ' = [some (.ref a), some (.ref x0), some (.ref x2)] ∧ MeshOf A H' x0 d0 cl tl cas tas cs fs ∧ RdAt A H' x2 a q ∧ Same H H' ∧ q ≤ B.length ∧ B.length - q < f ∧
              (∀ x ∈ cs, x.length = 3) ∧ (∀ x ∈ fs, x.length = 3) ∧ cs.length ≤ 64 ∧ fs.length ≤ 128 ∧ Bead.readMesh B = Bead.meshFrom f q (cs.map MM.cornerOf).reverse (fs.map MM.faceOf).reverse (B.drop q) ∧ μ' = B.length - q, rt := Q }
            [some (.ref a), some (.ref x0), some (.ref x2)] H3 := by
        intro no1
        have raise : ¬ (c = 116 ∧ 3 ≤ cs.length ∧ fs.length < 128) → (tRaise A.cF (spXI A) E (tCons (tFld K (tVar 2) "place") tNil)) { nx := fun _ _ => False, rt := Q } [some (.ref a), some (.ref x0), some (.ref x2)] H3 := by
          intro no2
          refine ⟨_, rfl, x2, A.cR, dx, _, _, rfl, r3, T.cR, T.nRp, rf_place a q, fun ea ne => ?_⟩
          refine ⟨ea, q, rfl, upd_same, fun dx' H' e1 e2 n kx => ⟨rfl, dx', _, e1, e2, k2 q (bad ?_ ?_) dx' _ ?_ (Same.raised ne s3 kx)⟩⟩
          · rintro ⟨z1, z2, z3⟩
            exact no1 ⟨z1, by omega, fnil.mp z2⟩
          · rintro ⟨z1, z2, z3⟩
            exact no2 ⟨z1, by omega, by omega⟩
          · rw [del_ne n]
            exact e2
        refine ⟨_, rfl, x2, dx, _, rfl, r3, rf_no a q (by decide +kernel) (by decide +kernel), x2, a, q, B, 116, rfl, ⟨dx, r3⟩, hs3, hq, _, rfl, ?_⟩
        by_cases h116 : B[q]? = some 116
        · have e116 : c = 116 := by
            rw [hc] at h116
            exact Option.some.inj h116
          rw [decide_eq_true h116]; refine iteT ?_
          refine ⟨_, rfl, x0, cs, fs, rfl, RM, _, rfl, ?_⟩
          by_cases h2 : 3 ≤ cs.length ∧ fs.length < 128
          · rw [decide_eq_true h2.1, decide_eq_true h2.2]
            show _
            have hg : ((cas.map V.ref).length : Int) - 1 = ((cs.length - 1 : Nat) : Int) := by
              rw [List.length_map, M.cT.len]
              omega
            refine ⟨_, rfl, x0, A.cM, d0, _, _, rfl, M.ins, T.cM, T.nMt, mf_t cl tl, .inl ⟨rfl, _, SqL.of M.t⟩, _, rfl, _, rfl, x0, A.cM, d0, _, _, rfl, M.ins, T.cM, T.nMc, mf_c cl tl, cl, _, rfl, .inl (SqL.of M.c), _, _, rfl, rfl, ?_⟩
            refine ⟨x2, a, q, cs.length - 1, true, B, 116, ?_, ⟨dx, r3⟩, hs3, h116, by omega, fun xs q' ex h3 hq' hqq H4 t r4 ht kp4 => ?_, fun q' ex dxx Hx hxx kxx => k2 q' ?_ dxx Hx hxx (up kxx)⟩
            · show [V.ref x2, V.int 116, V.int (((cas.map V.ref).length : Int) - 1), V.bl true] = _
              rw [hg]
              rfl
            · have M4 := M.keep ⟨dx, r3⟩ kp4
              obtain ⟨dx4, r4⟩ := r4
              refine ⟨tl, _, _, rfl, rfl, M4.t, ?_, ?_⟩
              · rw [List.length_map, M.tT.len]
                exact Nat.lt_trans h2.2 (by show 128 < sizeLine; decide)
              · have nt : ∀ {b o}, H4 b = some o → (∀ xs, o ≠ .lst xs) → b ≠ tl := fun z d => ne_of z M4.t (d _)
                have kt : ∀ b ys, H4 b = some (.tup ys) → upd H4 tl (.lst (tas.map V.ref ++ [.ref t])) b = some (.tup ys) := fun b ys z => by
                  rw [upd_ne (nt z (by intro xs z; cases z))]
                  exact z
                refine ⟨B.length - q', by omega, cas, tas ++ [t], cs, fs ++ [xs], q', f', rfl, ⟨?_, ?_, ?_, M.ne, M4.cT.mono kt, TupsAt.snoc (kt _ _ ht) (M4.tT.mono kt)⟩, ⟨dx4, ?_⟩, fun b o z => ?_, hq', by omega, hc3, ?_, hc64, ?_, ?_, rfl⟩
                · rw [upd_ne (nt M4.ins (by intro xs z; cases z))]
                  exact M4.ins
                · rw [upd_ne M.ne]
                  exact M4.c
                · rw [upd_same, List.map_append]
                  rfl
                · rw [upd_ne (nt r4 (by intro xs z; cases z))]
                  exact r4
                · have htl0 : H tl = none := by
                    cases y : H tl with
                    | none => rfl
                    | some o' =>
                      have y' : upd H cl (.lst []) tl = some o' := by rw [upd_ne (ne_of_none y hcl)]; exact y
                      rw [htl] at y'
                      cases y'
                  rw [upd_ne (ne_of_none z htl0)]
                  exact up kp4 b o z
                · intro x hx
                  rcases List.mem_append.mp hx with z | z
                  · exact hf3 x z
                  · rw [List.mem_singleton.mp z]
                    exact h3
                · rw [List.length_append, List.length_singleton]
                  omega
                · rw [e3, MM.drop_at h116, List.map_append, List.reverse_append]
                  have ef : Bead.faceIn (cs.map MM.cornerOf).reverse.length (q + 1) (B.drop (q + 1)) = .ok (MM.faceOf xs, q', B.drop q') := by
                    rw [lc, MM.face_nums _ (by omega) hc64]
                    have ex' : MM.numsIn (fun ns => MM.numIn (cs.length - 1) ns) 3 [] (q + 1) (B.drop (q + 1)) = .ok (xs, q', B.drop q') := ex
                    rw [ex']
                    rfl
                  exact MM.mesh_t_ok rfl (by rw [lc]; exact h2.1) (by rw [lf]; exact h2.2) ef
            · rw [e3, MM.drop_at h116]
              refine MM.mesh_t_err rfl (by rw [lc]; exact h2.1) (by rw [lf]; exact h2.2) ?_
              rw [lc, MM.face_nums _ (by omega) hc64]
              have ex' : MM.numsIn (fun ns => MM.numIn (cs.length - 1) ns) 3 [] (q + 1) (B.drop (q + 1)) = .error q' := ex
              rw [ex']
              rfl
          · have hb : (decide (3 ≤ cs.length) && decide (fs.length < 128)) = false := by
              rw [Bool.and_eq_false_iff, decide_eq_false_iff_not, decide_eq_false_iff_not]
              omega
            rw [hb]
            exact raise fun z => h2 z.2
        · rw [decide_eq_false h116]; refine iteF ?_
          refine raise fun z => h116 ?_
          rw [hc, z.1]
      refine ⟨_, rfl, x2, dx, _, rfl, r3, rf_no a q (by decide +kernel) (by decide +kernel), x2, a, q, B, 118, rfl, ⟨dx, r3⟩, hs3, hq, _, rfl, ?_⟩
      by_cases h118 : B[q]? = some 118
      · have e118 : c = 118 := by
          rw [hc] at h118
          exact Option.some.inj h118
        rw [decide_eq_true h118]; refine iteT ?_
        refine ⟨_, rfl, x0, cs, fs, rfl, RM, _, rfl, ?_⟩
        by_cases h2 : cs.length < 64 ∧ fs.length = 0
        · rw [decide_eq_true h2.1, decide_eq_true h2.2]
          show _
          have f0 : (fs.map MM.faceOf).reverse = [] := fnil.mpr h2.2
          refine ⟨_, rfl, x0, A.cM, d0, _, _, rfl, M.ins, T.cM, T.nMc, mf_c cl tl, .inl ⟨rfl, _, SqL.of M.c⟩, _, rfl, ?_⟩
          refine ⟨x2, a, q, 65535, false, B, 118, rfl, ⟨dx, r3⟩, hs3, h118, by omega, fun xs q' ex h3 hq' hqq H4 t r4 ht kp4 => ?_, fun q' ex dxx Hx hxx kxx => k2 q' ?_ dxx Hx hxx (up kxx)⟩
          · have M4 := M.keep ⟨dx, r3⟩ kp4
            obtain ⟨dx4, r4⟩ := r4
            refine ⟨cl, _, _, rfl, rfl, M4.c, ?_, ?_⟩
            · rw [List.length_map, M.cT.len]
              exact Nat.lt_trans h2.1 (by show 64 < sizeLine; decide)
            · have nt : ∀ {b o}, H4 b = some o → (∀ xs, o ≠ .lst xs) → b ≠ cl := fun z d => ne_of z M4.c (d _)
              have kt : ∀ b ys, H4 b = some (.tup ys) → upd H4 cl (.lst (cas.map V.ref ++ [.ref t])) b = some (.tup ys) := fun b ys z => by
                rw [upd_ne (nt z (by intro xs z; cases z))]
                exact z
              refine ⟨B.length - q', by omega, cas ++ [t], tas, cs ++ [xs], fs, q', f', rfl, ⟨?_, ?_, ?_, M.ne, TupsAt.snoc (kt _ _ ht) (M4.cT.mono kt), M4.tT.mono kt⟩, ⟨dx4, ?_⟩, fun b o z => ?_, hq', by omega, ?_, hf3, ?_, hf128, ?_, rfl⟩
              · rw [upd_ne (nt M4.ins (by intro xs z; cases z))]
                exact M4.ins
              · rw [upd_same, List.map_append]
                rfl
              · rw [upd_ne (Ne.symm M.ne)]
                exact M4.t
              · rw [upd_ne (nt r4 (by intro xs z; cases z))]
                exact r4
              · rw [upd_ne (ne_of_none z hcl)]
                exact up kp4 b o z
              · intro x hx
                rcases List.mem_append.mp hx with z | z
                · exact hc3 x z
                · rw [List.mem_singleton.mp z]
                  exact h3
              · rw [List.length_append, List.length_singleton]
                omega
              · rw [e3, MM.drop_at h118, List.map_append, List.reverse_append, f0]
                have ef : Bead.cornerIn (q + 1) (B.drop (q + 1)) = .ok (MM.cornerOf xs, q', B.drop q') := by
                  rw [MM.corner_nums]
                  have ex' : MM.numsIn (fun _ => MM.numIn 65535 []) 3 [] (q + 1) (B.drop (q + 1)) = .ok (xs, q', B.drop q') := ex
                  rw [ex']
                  rfl
                exact MM.mesh_v_ok (by rw [lc]; exact h2.1) ef
          · rw [e3, MM.drop_at h118, f0]
            refine MM.mesh_v_err (by rw [lc]; exact h2.1) ?_
            rw [MM.corner_nums]
            have ex' : MM.numsIn (fun _ => MM.numIn 65535 []) 3 [] (q + 1) (B.drop (q + 1)) = .error q' := ex
            rw [ex']
            rfl
        · have hb : (decide (cs.length < 64) && decide (fs.length = 0)) = false := by
            rw [Bool.and_eq_false_iff, decide_eq_false_iff_not, decide_eq_false_iff_not]
            omega
          rw [hb]
          exact second fun z => h2 z.2
      · rw [decide_eq_false h118]; refine iteF ?_
        refine second fun z => h118 ?_
        rw [hc, z.1]
end
section
variable {P : Program} {w : World} {K : PySem.W.Frag} {mg : Str → Option Value} {base : Heap} {A : Adr}
/-! ### answer, refusal -/
def spAns : Sp := fun vs H Q _ => ∃ (n : Int) (a b : Addr) (xs ys : List V), vs = [.int n, .ref a, .ref b] ∧ H a = some (.lst xs) ∧ H b = some (.lst ys) ∧ xs.length ≤ 100000 ∧ ys.length ≤ 100000 ∧
  ∀ (H' : Hp) (p : Addr), H' p = some (.lst (([.int n, .int (xs.length : Int)] ++ xs ++ [.int (ys.length : Int)]) ++ ys)) → Q (.ref p) H'
theorem scAns : FnScope ["number", "told", "numbers"] ["number", "told", "numbers"] (defScope sAns) := ⟨rfl, rfl, rfl, by decide +kernel, rfl, by decide +kernel, by decide +kernel⟩
theorem ok_ans (T : Txt K mg A) : ∃ fd, FnOkC P w K mg base CX0 1 A.fAns fd ["number", "told", "numbers"] spAns ∧ Binds K fd ["number", "told", "numbers"] [] ∧ PySem.W.keepIn K (.ref A.fAns) = true := by
  obtain ⟨fd, F, b⟩ := T.bAns
  refine ⟨fd, F.okC scAns (fun vs H Q E h => ?_) (fun cdv A' outer s H vs Q E hr h => ?_), b, F.kp⟩
  · obtain ⟨n, a, b, xs, ys, rfl, _⟩ := h
    rfl
  · obtain ⟨n, a, b, xs, ys, rfl, ha, hb, hx, hy, k⟩ := h
    refine ⟨_, pss_one (ps_ret (pe_op op_cat (pe_op op_cat (pe_op op_cat (pe_lst (pa_cons (pv 0) (pa_cons (pe_callB call_len_seq (by rfl) T.len PySem.boot_len (pa_cons (pv 1) pa_nil)) pa_nil))) (pv 1))
      (pe_lst (pa_cons (pe_callB call_len_seq (by rfl) T.len PySem.boot_len (pa_cons (pv 2) pa_nil)) pa_nil))) (pv 2))), ?_⟩
    refine ⟨_, rfl, _, rfl, a, _, rfl, .inl (SqL.of ha), (by show 2 ≤ sizeLine; decide), fun l1 n1 => ?_⟩
    have a1 : upd H l1 (.lst [.int n, .int (xs.length : Int)]) a = some (.lst xs) := by rw [upd_ne (ne_of_none ha n1)]; exact ha
    have b1 : upd H l1 (.lst [.int n, .int (xs.length : Int)]) b = some (.lst ys) := by rw [upd_ne (ne_of_none hb n1)]; exact hb
    refine ⟨_, rfl, l1, a, _, _, rfl, rfl, upd_same, a1, line_at (by simp only [List.length_cons, List.length_nil]; omega), fun l2 n2 => ?_⟩
    have b2 := (upd_ne (ne_of_none b1 n2) (o := HO.lst ([.int n, .int (xs.length : Int)] ++ xs))).trans b1
    refine ⟨_, rfl, b, _, rfl, .inl (SqL.of b2), (by show 1 ≤ sizeLine; decide), fun l3 n3 => ?_⟩
    have b3 := (upd_ne (ne_of_none b2 n3) (o := HO.lst [.int (ys.length : Int)])).trans b2
    have c3 : upd (upd (upd H l1 (.lst [.int n, .int (xs.length : Int)])) l2 (.lst ([.int n, .int (xs.length : Int)] ++ xs))) l3 (.lst [.int (ys.length : Int)]) l2 = some (.lst ([.int n, .int (xs.length : Int)] ++ xs)) := by
      rw [upd_ne (ne_of_none (upd_same : upd (upd H l1 (.lst [.int n, .int (xs.length : Int)])) l2 (.lst ([.int n, .int (xs.length : Int)] ++ xs)) l2 = _) n3)]
      exact upd_same
    refine ⟨l2, l3, _, _, rfl, rfl, c3, upd_same, line_at (by simp only [List.length_cons, List.length_nil, List.length_append]; omega), fun l4 n4 => ?_⟩
    have b4 := (upd_ne (ne_of_none b3 n4) (o := HO.lst ([.int n, .int (xs.length : Int)] ++ xs ++ [.int (ys.length : Int)]))).trans b3
    refine ⟨_, rfl, l4, b, _, _, rfl, rfl, upd_same, b4, line_at (by simp only [List.length_cons, List.length_nil, List.length_append]; omega), fun l5 n5 => ?_⟩
    exact k _ l5 upd_same
def spRef : Sp := fun vs H Q _ => ∃ n : Int, vs = [.int n] ∧ ∀ (H' : Hp) (p : Addr), H' p = some (.lst [.int n, .int 0, .int 0]) → Q (.ref p) H'
theorem scRef : FnScope ["number"] ["number"] (defScope sRef) := ⟨rfl, rfl, rfl, by decide +kernel, rfl, by decide +kernel, by decide +kernel⟩
theorem ok_ref (T : Txt K mg A) : ∃ fd, FnOkC P w K mg base CX0 2 A.fRef fd ["number"] spRef ∧ Binds K fd ["number"] [] ∧ PySem.W.keepIn K (.ref A.fRef) = true := by
  obtain ⟨fd, F, b⟩ := T.bRef
  obtain ⟨fdA, GA, bA, kA⟩ := ok_ans (P := P) (w := w) (base := base) T
  refine ⟨fd, F.okC scRef (fun vs H Q E h => ?_) (fun cdv A' outer s H vs Q E hr h => ?_), b, F.kp⟩
  · obtain ⟨n, rfl, _⟩ := h
    rfl
  · obtain ⟨n, rfl, k⟩ := h
    refine ⟨_, pss_one (ps_ret (pe_callC GA hr (by rfl) T.gAns kA bA pass0 (pa_cons (pv 0) (pa_cons (pe_lst pa_nil) (pa_cons (pe_lst pa_nil) pa_nil))))), ?_⟩
    refine ⟨_, rfl, Nat.zero_le _, fun l1 n1 => ⟨Nat.zero_le _, fun l2 n2 => ?_⟩⟩
    have a1 : upd (upd H l1 (.lst [])) l2 (.lst []) l1 = some (.lst []) := by
      rw [upd_ne (ne_of_none (upd_same : upd H l1 (.lst []) l1 = _) n2)]
      exact upd_same
    exact ⟨n, l1, l2, [], [], rfl, a1, upd_same, Nat.zero_le _, Nat.zero_le _, fun H' p hp => k H' p hp⟩
end
end MP

end

section
set_option Elab.async false
set_option linter.all false
set_option maxRecDepth 100000
set_option maxHeartbeats 2000000
namespace MP
open PySem PySem.Spec PyProof.Rows L2
open Bead (Bytes In isDigit)
/-! ### what is due -/
/-- what is due -/
def due (c : Bodies.Call) : List Int := BodiesNeutral.numbersOf (Bodies.answer c)
theorem looked_short {B : Bytes} (h : ¬ 16384 < B.length) (a : Bodies.Answer) : Bodies.looked [B] a = a := by
  unfold Bodies.looked
  rw [if_neg]
  rw [List.any_cons, decide_eq_false (show ¬ Bead.LOOKED < B.length from h)]
  decide
theorem looked_long {B : Bytes} (h : 16384 < B.length) (a : Bodies.Answer) : Bodies.looked [B] a = Bead.says (-2) := by
  unfold Bodies.looked
  rw [if_pos]
  rw [List.any_cons, decide_eq_true (show Bead.LOOKED < B.length from h)]
  rfl
theorem says_is (z : Int) : (BodiesNeutral.numbersOf (Bead.says z)).map V.int = [.int z, .int 0, .int 0] := rfl
/-! ### the request -/
theorem text_back : ∀ {ns : List Int}, ns.all (PySem.W.Codec.inInt 0 255) = true → ns.map V.int = (BodiesNeutral.text ns).map bV
  | [], _ => rfl
  | n :: ns, h => by
    rw [List.all_cons, Bool.and_eq_true] at h
    have ih := text_back h.2
    have h1 : 0 ≤ n ∧ n ≤ 255 := PySem.W.Codec.inInt_iff.mp h.1
    show V.int n :: ns.map V.int = bV (UInt8.ofNat n.toNat) :: (BodiesNeutral.text ns).map bV
    rw [ih]
    congr 1
    show V.int n = V.int (((UInt8.ofNat n.toNat).toNat : Nat) : Int)
    rw [UInt8.toNat_ofNat_of_lt' (by show n.toNat < 256; omega)]
    congr 1
    omega
/-! ### more of meshes in the heap -/
theorem TupsAt.at_ {H : Hp} : ∀ {as : List Addr} {xs : List (List Nat)} (i : Nat) {a : Addr}, TupsAt H as xs → as[i]? = some a → ∃ x, xs[i]? = some x ∧ H a = some (.tup (x.map nV))
  | [], _, i, a, _, e => by simp at e
  | _ :: _, [], _, _, h, _ => h.elim
  | b :: _, y :: _, 0, a, ⟨h1, _⟩, e => by
    simp at e
    subst e
    exact ⟨y, rfl, h1⟩
  | _ :: as, _ :: xs, i + 1, a, ⟨_, h2⟩, e => by
    obtain ⟨x, e1, e2⟩ := TupsAt.at_ i h2 (by simpa using e)
    exact ⟨x, by simpa using e1, e2⟩
theorem refs_at {cas : List Addr} {j : Nat} {x : V} (h : (cas.map V.ref)[j]? = some x) : ∃ c, cas[j]? = some c ∧ x = .ref c := by
  rw [List.getElem?_map] at h
  cases e : cas[j]? with
  | none =>
    rw [e] at h
    cases h
  | some c =>
    rw [e] at h
    exact ⟨c, rfl, (Option.some.inj h).symm⟩
theorem MeshOf.same {A : Adr} {H H' : Hp} {m dm cl tl : Addr} {cas tas : List Addr} {cs fs : List (List Nat)} (M : MeshOf A H m dm cl tl cas tas cs fs) (k : Same H H') : MeshOf A H' m dm cl tl cas tas cs fs :=
  ⟨k _ _ M.ins, k _ _ M.c, k _ _ M.t, M.ne, M.cT.mono fun b ys e => k _ _ e, M.tT.mono fun b ys e => k _ _ e⟩
/-! ### mesh_of -/
def spMo (A : Adr) (K : PySem.W.Frag) : Sp := fun vs H Q _ => ∃ (a : Addr) (B : Bytes), vs = [.ref a] ∧ SqL K H a (B.map bV) ∧
  (∀ cs fs, Bead.readMesh B = .ok ⟨cs.map MM.cornerOf, fs.map MM.faceOf⟩ → (∀ x ∈ cs, x.length = 3) → (∀ x ∈ fs, x.length = 3) → cs.length ≤ 64 → fs.length ≤ 128 → ∀ (H' : Hp) (m : Addr), MeshAt A H' m cs fs → Same H H' → Q (.ref m) H') ∧
  (∀ q, Bead.readMesh B = .error q → ∀ H' : Hp, Same H H' → Q .non H')
section
variable {P : Program} {w : World} {K : PySem.W.Frag} {mg : Str → Option Value} {base : Heap} {A : Adr}
theorem scMo : FnScope ["t"] ["t"] (defScope sMo) := ⟨rfl, rfl, rfl, by decide +kernel, rfl, by decide +kernel, by decide +kernel⟩
theorem ok_mo (T : Txt K mg A) : ∃ fd, FnOk P w K mg base CX0 11 A.fMo fd ["t"] (spMo A K) ∧ Binds K fd ["t"] [] ∧ PySem.W.keepIn K (.ref A.fMo) = true := by
  obtain ⟨fd, F, b⟩ := T.bMo
  obtain ⟨fdM, GM, bM, kM⟩ := ok_rm (P := P) (w := w) (base := base) T
  refine ⟨fd, F.ok scMo (fun vs H Q E h => ?_) (fun cdv A' outer s H vs Q E hr h => ?_), b, F.kp⟩
  · obtain ⟨a, B, rfl, _⟩ := h
    rfl
  · obtain ⟨a, B, rfl, hs, k1, k2⟩ := h
    refine ⟨_, pss_one (ps_try0 T.exF.ex (by rfl) T.gF rfl rfl
      (fun pl E' E hx => pss_one (ps_ret (pe_call GM hr (by rfl) T.gRm kM bM .nil hx (pa_cons (pv 0) pa_nil))))
      (fun e pl => pss_one (ps_ret pe_non))), ?_⟩
    exact ⟨_, rfl, a, B, rfl, hs, fun cs fs e h3 f3 h64 h128 H1 m M s1 => k1 cs fs e h3 f3 h64 h128 H1 m M s1, fun q e dx H1 h1 s1 => ⟨rfl, fun dx' ed σ' hσ => k2 q e H1 s1⟩⟩
end
theorem of_mesh {B : Bytes} {M : Bead.Mesh} (e : Bead.readMesh B = .ok M) (f : Bead.Mesh → Bodies.Answer) : Bodies.ofMesh B f = f M := by
  unfold Bodies.ofMesh
  rw [e]
theorem of_nomesh {B : Bytes} {q : Nat} (h : Bead.readMesh B = .error q) (f : Bead.Mesh → Bodies.Answer) : Bodies.ofMesh B f = Bead.says (-6) := by
  unfold Bodies.ofMesh
  rw [h]
/-! ### telling -/
section
variable {P : Program} {w : World} {K : PySem.W.Frag} {mg : Str → Option Value} {base : Heap} {A : Adr}
def spTel : Sp := fun vs H Q _ => ∃ (a : Addr) (xs : List V), vs = [.ref a] ∧ H a = some (.lst xs) ∧ xs.length ≤ 100000 ∧
  ∀ (H' : Hp) (p : Addr), H' p = some (.lst (([.int (xs.length : Int), .int (xs.length : Int)] ++ xs ++ [.int 0]) ++ [])) → Q (.ref p) H'
theorem scTel : FnScope ["told"] ["told"] (defScope sTel) := ⟨rfl, rfl, rfl, by decide +kernel, rfl, by decide +kernel, by decide +kernel⟩
theorem ok_tel (T : Txt K mg A) : ∃ fd, FnOk P w K mg base CX0 2 A.fTel fd ["told"] spTel ∧ Binds K fd ["told"] [] ∧ PySem.W.keepIn K (.ref A.fTel) = true := by
  obtain ⟨fd, F, b⟩ := T.bTel
  obtain ⟨fdA, GA, bA, kA⟩ := ok_ans (P := P) (w := w) (base := base) T
  refine ⟨fd, F.ok scTel (fun vs H Q E h => ?_) (fun cdv A' outer s H vs Q E hr h => ?_), b, F.kp⟩
  · obtain ⟨a, xs, rfl, _⟩ := h
    rfl
  · obtain ⟨a, xs, rfl, ha, hx, k⟩ := h
    refine ⟨_, pss_one (ps_ret (pe_callC GA hr.c (by rfl) T.gAns kA bA pass0 (pa_cons (pe_callB call_len_seq (by rfl) T.len PySem.boot_len (pa_cons (pv 0) pa_nil)) (pa_cons (pv 0) (pa_cons (pe_lst pa_nil) pa_nil))))), ?_⟩
    refine ⟨_, rfl, a, _, rfl, .inl (SqL.of ha), _, rfl, Nat.zero_le _, fun l1 n1 => ?_⟩
    refine ⟨_, a, l1, xs, [], rfl, ?_, upd_same, hx, Nat.zero_le _, fun H' p hp => k H' p hp⟩
    rw [upd_ne (ne_of_none ha n1)]
    exact ha
end
theorem gives_is (l : Bytes) : (BodiesNeutral.numbersOf (Bead.gives l)).map V.int = ([.int ((l.map bV).length : Int), .int ((l.map bV).length : Int)] ++ l.map bV ++ [.int 0]) ++ [] := by
  show V.int ((l.length : Nat) : Int) :: V.int ((l.length : Nat) : Int) :: ((l.map fun (c : UInt8) => ((c.toNat : Nat) : Int)) ++ (0 :: [])).map V.int = _
  rw [List.length_map, List.map_append, List.map_map, List.append_nil]
  rfl
/-! ### texts -/
theorem boot_st : bootBuiltins "str" = some (.type "str") := by decide +kernel
theorem boot_od : bootBuiltins "ord" = some (.builtin "ord") := by decide +kernel
def byN (l : Bytes) : List Nat := l.map fun c => c.toNat
def strN (n : Nat) : Str := (toString (n : Int) : String)
theorem digits_nat : ∀ n : Nat, (Nat.toDigits 10 n).map Char.toNat = byN (Bead.dec n) := by
  have small : ∀ d, d < 10 → Char.toNat (Nat.digitChar d) = (UInt8.ofNat (Char.toNat (Nat.digitChar d))).toNat := by decide
  intro n
  unfold byN Bead.dec
  rw [List.map_map]
  refine List.map_congr_left fun c hc => ?_
  have h := Nat.isDigit_of_mem_toDigits (b := 10) (by decide) (by decide) hc
  show c.toNat = (UInt8.ofNat c.toNat).toNat
  rw [UInt8.toNat_ofNat_of_lt']
  have : c.toNat ≤ 57 := by
    unfold Char.isDigit at h
    simp only [Bool.and_eq_true, decide_eq_true_eq] at h
    exact h.2
  show c.toNat < 256
  omega
theorem tl_strN (n : Nat) : TL.tl (strN n) = byN (Bead.dec n) := by
  unfold strN TL.tl
  rw [Str.ofString_eq_toList]
  have e : (toString (n : Int) : String).toList = Nat.toDigits 10 n := by
    show (Nat.repr n).toList = _
    unfold Nat.repr
    simp
  show (((toString (n : Int)).toList.map Char.toNat).toArray).toList = _
  rw [e, digits_nat]
section
variable {P : Program} {w : World} {K : PySem.W.Frag} {mg : Str → Option Value} {base : Heap} {A : Adr}
/-! ### line_of -/
def spLn : Sp := fun vs H Q _ => ∃ (c : UInt8) (lt : Str) (t : Addr) (xs : List Nat), vs = [.str lt, .ref t] ∧ TL.tl lt = [c.toNat] ∧ H t = some (.tup (xs.map nV)) ∧ xs.length = 3 ∧ (∀ n ∈ xs, n < 100000) ∧
  ∀ (H' : Hp) (y : Str), TL.tl y = byN (MM.lineB c xs) → Same H H' → Q (.str y) H'
theorem scLn : FnScope ["letter", "numbers", "number"] ["letter", "numbers"] (defScope sline_of) := ⟨rfl, rfl, rfl, by decide +kernel, rfl, by decide +kernel, by decide +kernel⟩
theorem ok_ln (T : Txt K mg A) : ∃ fd, FnOk P w K mg base CX0 1 A.fline_of fd ["letter", "numbers"] spLn ∧ Binds K fd ["letter", "numbers"] [] ∧ PySem.W.keepIn K (.ref A.fline_of) = true := by
  obtain ⟨fd, F, b⟩ := T.bline_of
  refine ⟨fd, F.ok scLn (fun vs H Q E h => ?_) (fun cdv A' outer s H vs Q E hr h => ?_), b, F.kp⟩
  · obtain ⟨c, lt, t, xs, rfl, _⟩ := h
    rfl
  · obtain ⟨c, lt, t, xs, rfl, hlt, ht, h3, hb, k⟩ := h
    refine ⟨_, pss_one (ps_ret (pe_op op_add_str (pe_join pe_str (pe_op op_cat (pe_lst (pa_cons (pv 0) pa_nil)) (pe_lc (own := [("number", 2)]) rfl scLn.nd (pi_tup (pv 1)) (blkOk_at (N := ["letter", "numbers", "number"]) (sc := defScope sline_of) (by decide +kernel)) (fun _ _ _ _ _ => pg_name (i := 2) scLn.nd rfl (Or.inl rfl)) (fun _ _ _ _ _ => pts_nil) (fun _ _ _ _ _ => (pe_callTy call_str_int (by rfl) T.str boot_st (pa_cons (pv 2) pa_nil)))))) pe_str)), ?_⟩
    refine ⟨⟨_, rfl⟩, _, rfl, (by show 1 ≤ sizeLine; decide), fun l1 n1 => ?_⟩
    have s1 := Same.new (o := HO.lst [.str lt]) n1
    have ht1 := s1 _ _ ht
    refine ⟨_, rfl, t, rfl, ⟨_, SqT.of ht1⟩, fun D hD => lc_tup (K := K) (a := t) (xs := xs.map nV) (fun i H' => H' D = some (.lst (((xs.take i).map strN).map V.str)) ∧ Same (upd H l1 (.lst [.str lt])) H') ⟨upd_same, Same.new hD⟩ ?_ ?_ ?_⟩
    · rintro i H' _ ⟨_, p2⟩
      exact SqT.of (p2 _ _ ht1)
    · rintro i y H' hy ⟨p1, p2⟩
      rw [List.getElem?_map] at hy
      obtain ⟨n, hn, rfl⟩ := Option.map_eq_some_iff.mp hy
      have hnb := hb n (List.mem_of_getElem? hn)
      have hi : i < 3 := by
        rw [← h3]
        exact (List.getElem?_eq_some_iff.mp hn).1
      refine ⟨rfl, yesT ?_⟩
      refine ⟨_, rfl, _, rfl, ?_, _, p1, ?_, ?_, fun b o q => ?_⟩
      · show ((n : Int).natAbs).log2 < 1920
        rw [Int.natAbs_natCast]
        exact MM.log_small hnb
      · rw [List.length_map, List.length_map, List.length_take]
        exact Nat.lt_of_le_of_lt (Nat.min_le_left _ _) (Nat.lt_trans hi (by decide))
      · rw [upd_same, List.take_add_one, hn, List.map_append, List.map_append]
        rfl
      · rw [upd_ne (ne_of_none q hD)]
        exact p2 _ _ q
    · rintro H2 ⟨p1, p2⟩
      rw [List.length_map, List.take_length] at p1
      refine ⟨l1, D, _, _, rfl, rfl, p2 _ _ upd_same, p1, ?_, fun q nq => ?_⟩
      · rw [List.length_map, List.length_map, h3]
        exact line_at (by show 1 + 3 ≤ 300000; decide)
      have s3 := Same.new (o := HO.lst ([V.str lt] ++ (xs.map strN).map V.str)) nq
      have hl : ∀ n ∈ xs, (strN n).length ≤ 5 := fun n hn => by
        rw [TL.len_tl, tl_strN]
        unfold byN
        rw [List.length_map]
        exact MM.dec_len (hb n hn)
      have hll : lt.length = 1 := by
        rw [TL.len_tl, hlt]
        rfl
      match xs, h3 with
      | [a, b', c'], _ =>
        have h1 := hl a (by simp)
        have h2 := hl b' (by simp)
        have h4 := hl c' (by simp)
        refine ⟨_, q, lt :: [a, b', c'].map strN, rfl, rfl, .inl (SqL.of upd_same), ?_, ?_⟩
        · show (lt.length + ((strN a).length + ((strN b').length + ((strN c').length + 0)))) + 4 * 1 ≤ 16777216
          omega
        · rw [TL.join_eq]
          have ej : TL.tl (Str.join (" " : Str) (lt :: [a, b', c'].map strN)) = [c.toNat] ++ ([32] ++ (byN (Bead.dec a) ++ ([32] ++ (byN (Bead.dec b') ++ ([32] ++ byN (Bead.dec c')))))) := by
            rw [TL.tl_join]
            show TL.tl lt ++ (TL.tl (" " : Str) ++ (TL.tl (strN a) ++ (TL.tl (" " : Str) ++ (TL.tl (strN b') ++ (TL.tl (" " : Str) ++ TL.tl (strN c')))))) = _
            rw [hlt, tl_strN, tl_strN, tl_strN, show TL.tl (" " : Str) = [32] from by decide +kernel]
          refine ⟨_, _, rfl, rfl, ?_, k _ _ ?_ ((s1.trans p2).trans s3)⟩
          · rw [TL.len_tl, ej]
            have d1 := MM.dec_len (hb a (by simp))
            have d2 := MM.dec_len (hb b' (by simp))
            have d3 := MM.dec_len (hb c' (by simp))
            refine Nat.le_trans (m := 100) ?_ (by decide)
            simp only [List.length_append, List.length_cons, List.length_nil, byN, List.length_map]
            show _ + (("\n" : Str).length) ≤ 100
            rw [show ("\n" : Str).length = 1 from by decide +kernel]
            omega
          · rw [TL.tl_append, ej, show TL.tl ("\n" : Str) = [10] from by decide +kernel]
            unfold byN MM.lineB
            simp
/-! ### text_of -/
theorem TupsAt.same {H H' : Hp} (k : Same H H') {as : List Addr} {xs : List (List Nat)} (h : TupsAt H as xs) : TupsAt H' as xs := h.mono fun _ _ e => k _ _ e
theorem sum_len {ys : List Str} {k : Nat} (h : ∀ y ∈ ys, y.length ≤ k) : (ys.map (·.length)).sum ≤ ys.length * k := by
  induction ys with
  | nil => simp
  | cons y ys ih =>
    rw [List.map_cons, List.sum_cons, List.length_cons, Nat.succ_mul]
    have := h y (by simp)
    have := ih fun z hz => h z (by simp [hz])
    omega
def spTx (A : Adr) : Sp := fun vs H Q _ => ∃ (m : Addr) (cs fs : List (List Nat)), vs = [.ref m] ∧ MeshAt A H m cs fs ∧ (∀ x ∈ cs, x.length = 3) ∧ (∀ x ∈ fs, x.length = 3) ∧ (∀ x ∈ cs, ∀ n ∈ x, n < 100000) ∧ (∀ x ∈ fs, ∀ n ∈ x, n < 100000) ∧ cs.length ≤ 64 ∧ fs.length ≤ 128 ∧
  ∀ (H' : Hp) (p : Addr), H' p = some (.lst ((⟨cs.map MM.cornerOf, fs.map MM.faceOf⟩ : Bead.Mesh).text.map bV)) → Q (.ref p) H'
theorem scTx : FnScope ["mesh", "lines", "corner", "triangle", "sign"] ["mesh"] (defScope stext_of) := ⟨rfl, rfl, rfl, by decide +kernel, rfl, by decide +kernel, by decide +kernel⟩
theorem joinL_nil : ∀ l : List (List Nat), TL.joinL [] l = l.flatten
  | [] => rfl
  | [p] => by simp [TL.joinL]
  | p :: q :: r => by
    show p ++ ([] ++ TL.joinL [] (q :: r)) = p ++ (q :: r).flatten
    rw [List.nil_append, joinL_nil (q :: r)]
theorem ok_tx (T : Txt K mg A) : ∃ fd, FnOk P w K mg base CX0 2 A.ftext_of fd ["mesh"] (spTx A) ∧ Binds K fd ["mesh"] [] ∧ PySem.W.keepIn K (.ref A.ftext_of) = true := by
  obtain ⟨fd, F, b⟩ := T.btext_of
  obtain ⟨fdL, GL, bL, kL⟩ := ok_ln (P := P) (w := w) (base := base) T
  refine ⟨fd, F.ok scTx (fun vs H Q E h => ?_) (fun cdv A' outer s H vs Q E hr h => ?_), b, F.kp⟩
  · obtain ⟨m, cs, fs, rfl, _⟩ := h
    rfl
  · obtain ⟨m, cs, fs, rfl, ⟨dm, cl, tl, cas, tas, M⟩, hc3, hf3, hcb, hfb, hcl, hfl, k⟩ := h
    refine ⟨_, pss_cons (ps_setLc (own := [("corner", 2)]) (i := 1) rfl scTx.nd rfl rfl (sw_true rfl rfl (by rfl) (by decide +kernel)) (pi_list (pe_fld (pv 0) rfl)) (blkOk_at (N := ["mesh", "lines", "corner", "triangle", "sign"]) (sc := defScope stext_of) (by decide +kernel)) (fun _ _ _ _ _ => pg_name (i := 2) scTx.nd rfl (Or.inl rfl)) (fun _ _ _ _ _ => pts_nil) (fun _ _ _ _ _ => (pe_call GL hr (by rfl) T.gline_of kL bL .nil pass0 (pa_cons pe_str (pa_cons (pv 2) pa_nil)))))
      (pss_cons (ps_expr (pe_bm PySem.F.plainAttrs_list PySem.F.slot_list_extend PySem.F.type_list_extend mt_extend (pv 1) (pa_cons (pe_lc (own := [("triangle", 3)]) rfl scTx.nd (pi_list (pe_fld (pv 0) rfl)) (blkOk_at (N := ["mesh", "lines", "corner", "triangle", "sign"]) (sc := defScope stext_of) (by decide +kernel)) (fun _ _ _ _ _ => pg_name (i := 3) scTx.nd rfl (Or.inl rfl)) (fun _ _ _ _ _ => pts_nil) (fun _ _ _ _ _ => (pe_call GL hr (by rfl) T.gline_of kL bL .nil pass0 (pa_cons pe_str (pa_cons (pv 3) pa_nil))))) pa_nil)))
      (pss_one (ps_ret (pe_lc (own := [("sign", 4)]) rfl scTx.nd (pi_str (pe_join pe_str (pv 1))) (blkOk_at (N := ["mesh", "lines", "corner", "triangle", "sign"]) (sc := defScope stext_of) (by decide +kernel)) (fun _ _ _ _ _ => pg_name (i := 4) scTx.nd rfl (Or.inl rfl)) (fun _ _ _ _ _ => pts_nil) (fun _ _ _ _ _ => (pe_callB call_ord (by rfl) T.ord boot_od (pa_cons (pv 4) pa_nil))))))), ?_⟩
    refine ⟨_, rfl, m, A.cM, dm, _, _, rfl, M.ins, T.cM, T.nMc, mf_c cl tl, cl, rfl, ⟨_, SqL.of M.c⟩, fun D1 hD1 => lc_list (K := K) (a := cl) (xs := cas.map V.ref) (fun i H' => ∃ ys : List Str, H' D1 = some (.lst (ys.map V.str)) ∧ ys.map TL.tl = (cs.take i).map (fun x => byN (MM.lineB 118 x)) ∧ Same H H') ⟨[], upd_same, rfl, Same.new hD1⟩ ?_ ?_ ?_⟩
    · rintro i H' _ ⟨_, _, _, p3⟩
      exact SqL.of (p3 _ _ M.c)
    · rintro i y H' hy ⟨ys, p1, p2, p3⟩
      obtain ⟨c, hc, rfl⟩ := refs_at hy
      obtain ⟨x, hx, hxt⟩ := M.cT.at_ i hc
      have hxm := List.mem_of_getElem? hx
      have hyl : ys.length ≤ i := by
        have := congrArg List.length p2
        rw [List.length_map, List.length_map, List.length_take] at this
        omega
      have hi : i < cs.length := (List.getElem?_eq_some_iff.mp hx).1
      refine ⟨rfl, yesT ?_⟩
      refine ⟨_, rfl, 118, _, c, x, rfl, (by decide +kernel), p3 _ _ hxt, hc3 x hxm, hcb x hxm, fun H2 y hy2 s2 => ?_⟩
      refine ⟨_, s2 _ _ p1, ?_, ys ++ [y], ?_, ?_, fun b o q => ?_⟩
      · rw [List.length_map]
        exact Nat.lt_of_le_of_lt (by omega : _ ≤ 1000) (by decide)
      · rw [upd_same, List.map_append]
        rfl
      · rw [List.take_add_one, hx, List.map_append, List.map_append, p2]
        show _ ++ [TL.tl y] = _
        rw [hy2]
        rfl
      · rw [upd_ne (ne_of_none q hD1)]
        exact s2 _ _ (p3 _ _ q)
    · rintro H1 ⟨ys, p1, p2, p3⟩
      rw [List.length_map, M.cT.len, List.take_length] at p2
      have hys : ys.length = cs.length := by
        have := congrArg List.length p2
        rwa [List.length_map, List.length_map] at this
      have M1 := M.same p3
      refine ⟨_, rfl, .inl ⟨rfl, _, SqL.of p1⟩, _, rfl, m, A.cM, dm, _, _, rfl, M1.ins, T.cM, T.nMt, mf_t cl tl, tl, rfl, ⟨_, SqL.of M1.t⟩, fun D2 hD2 => lc_list (K := K) (a := tl) (xs := tas.map V.ref) (fun i H' => ∃ zs : List Str, H' D2 = some (.lst (zs.map V.str)) ∧ zs.map TL.tl = (fs.take i).map (fun x => byN (MM.lineB 116 x)) ∧ Same H1 H') ⟨[], upd_same, rfl, Same.new hD2⟩ ?_ ?_ ?_⟩
      · rintro i H' _ ⟨_, _, _, q3⟩
        exact SqL.of (q3 _ _ M1.t)
      · rintro i y H' hy ⟨zs, q1, q2, q3⟩
        obtain ⟨c, hc, rfl⟩ := refs_at hy
        obtain ⟨x, hx, hxt⟩ := M1.tT.at_ i hc
        have hxm := List.mem_of_getElem? hx
        have hyl : zs.length ≤ i := by
          have := congrArg List.length q2
          rw [List.length_map, List.length_map, List.length_take] at this
          omega
        have hi : i < fs.length := (List.getElem?_eq_some_iff.mp hx).1
        refine ⟨rfl, yesT ?_⟩
        refine ⟨_, rfl, 116, _, c, x, rfl, (by decide +kernel), q3 _ _ hxt, hf3 x hxm, hfb x hxm, fun H2 y hy2 s2 => ?_⟩
        refine ⟨_, s2 _ _ q1, ?_, zs ++ [y], ?_, ?_, fun b o q => ?_⟩
        · rw [List.length_map]
          exact Nat.lt_of_le_of_lt (by omega : _ ≤ 1000) (by decide)
        · rw [upd_same, List.map_append]
          rfl
        · rw [List.take_add_one, hx, List.map_append, List.map_append, q2]
          show _ ++ [TL.tl y] = _
          rw [hy2]
          rfl
        · rw [upd_ne (ne_of_none q hD2)]
          exact s2 _ _ (q3 _ _ q)
      · rintro H2 ⟨zs, q1, q2, q3⟩
        rw [List.length_map, M.tT.len, List.take_length] at q2
        have hzs : zs.length = fs.length := by
          have := congrArg List.length q2
          rwa [List.length_map, List.length_map] at this
        refine ⟨D1, D2, _, _, rfl, rfl, q3 _ _ p1, q1, ?_, ?_⟩
        · rw [List.length_map, List.length_map]
          exact line_at (by omega)
        have hall : (ys ++ zs).map TL.tl = (cs.map (MM.lineB 118) ++ fs.map (MM.lineB 116)).map byN := by
          rw [List.map_append, p2, q2, List.map_append, List.map_map, List.map_map]
          rfl
        have hsh : ∀ y ∈ ys ++ zs, y.length ≤ 20 := fun y hy => by
          have : TL.tl y ∈ (ys ++ zs).map TL.tl := List.mem_map.mpr ⟨y, hy, rfl⟩
          rw [hall] at this
          obtain ⟨l, hl, e⟩ := List.mem_map.mp this
          rw [TL.len_tl, ← e]
          unfold byN
          rw [List.length_map]
          rcases List.mem_append.mp hl with z | z
          · obtain ⟨x, hx, rfl⟩ := List.mem_map.mp z
            exact MM.line_len (hc3 x hx) (hcb x hx)
          · obtain ⟨x, hx, rfl⟩ := List.mem_map.mp z
            exact MM.line_len (hf3 x hx) (hfb x hx)
        have hsum := sum_len hsh
        rw [List.length_append] at hsum
        refine ⟨⟨_, rfl⟩, _, rfl, _, D1, ys ++ zs, rfl, rfl, .inl (SqL.of (upd_same.trans (by rw [List.map_append]))), ?_, _, rfl, ?_⟩
        · show ((ys ++ zs).map (·.length)).sum + (ys ++ zs).length * 0 ≤ 16777216
          rw [Nat.mul_zero]
          omega
        rw [TL.join_eq]
        have htl : TL.tl (Str.join ("" : Str) (ys ++ zs)) = byN (⟨cs.map MM.cornerOf, fs.map MM.faceOf⟩ : Bead.Mesh).text := by
          rw [TL.tl_join, show TL.tl ("" : Str) = [] from by decide +kernel, joinL_nil, hall, MM.text_lines cs fs hc3 hf3]
          unfold byN
          rw [← List.map_flatten]
        generalize hX : Str.join ("" : Str) (ys ++ zs) = X at htl ⊢
        have hXl : (TL.tl X).length ≤ 4000 := by
          rw [htl]
          unfold byN
          rw [List.length_map, MM.text_lines cs fs hc3 hf3]
          refine Nat.le_trans (MM.flat_len (k := 20) fun l hl => ?_) ?_
          · rcases List.mem_append.mp hl with z | z
            · obtain ⟨x, hx, rfl⟩ := List.mem_map.mp z
              exact MM.line_len (hc3 x hx) (hcb x hx)
            · obtain ⟨x, hx, rfl⟩ := List.mem_map.mp z
              exact MM.line_len (hf3 x hx) (hfb x hx)
          · rw [List.length_append, List.length_map, List.length_map]
            omega
        refine fun D3 hD3 => lc_str (x := X) (fun i H' => H' D3 = some (.lst (((TL.tl X).take i).map fun (c : Nat) => V.int (c : Int)))) upd_same ?_ ?_
        · rintro i c H' hc p1'
          have hcl : (TL.tl X)[i]? = some c := by
            rw [← hc]
            exact Array.getElem?_toList
          refine ⟨rfl, yesT ?_⟩
          refine ⟨_, rfl, _, rfl, rfl, _, p1', ?_, ?_⟩
          · rw [List.length_map, List.length_take]
            exact Nat.lt_of_le_of_lt (Nat.le_trans (Nat.min_le_right _ _) hXl) (by decide)
          · rw [upd_same, List.take_add_one, hcl, List.map_append]
            rfl
        · intro H' p1'
          refine k H' D3 ?_
          rw [p1', show X.cps.size = (TL.tl X).length from by simp [TL.tl], List.take_length, htl]
          unfold byN
          rw [List.map_map]
          rfl
end
end MP

end

section
set_option Elab.async false
set_option linter.all false
set_option maxRecDepth 100000
set_option maxHeartbeats 2000000
namespace MP
open PySem PySem.Spec PyProof.Rows L2
open Bead (Bytes In isDigit)
section
variable {P : Program} {w : World} {K : PySem.W.Frag} {mg : Str → Option Value} {base : Heap} {A : Adr}
/-! ### turned_about_x -/
def spTX : Sp := fun vs H Q _ => ∃ (t : Addr) (x : List Nat), vs = [.ref t] ∧ H t = some (.tup (x.map nV)) ∧ MM.Pt3 x ∧ ∀ (H' : Hp) (p : Addr), H' p = some (.tup ((MM.tX x).map nV)) → Same H H' → Q (.ref p) H'
theorem scTX : FnScope ["corner"] ["corner"] (defScope sturned_about_x) := ⟨rfl, rfl, rfl, by decide +kernel, rfl, by decide +kernel, by decide +kernel⟩
theorem ok_tX (T : Txt K mg A) : ∃ fd, FnOk P w K mg base CX0 1 A.fturned_about_x fd ["corner"] spTX ∧ Binds K fd ["corner"] [] ∧ PySem.W.keepIn K (.ref A.fturned_about_x) = true := by
  obtain ⟨fd, F, b⟩ := T.bturned_about_x
  refine ⟨fd, F.ok scTX (fun vs H Q E h => ?_) (fun cdv A' outer s H vs Q E hr h => ?_), b, F.kp⟩
  · obtain ⟨t, x, rfl, _⟩ := h
    rfl
  · obtain ⟨t, x, rfl, ht, hx, k⟩ := h
    obtain ⟨a, b', c, rfl, h1, h2, h3⟩ := hx.ex
    have hq := SqT.of (K := K) ht
    refine ⟨_, pss_one (ps_ret (pe_tup (pa_cons (pe_ix ix_tup (pv 0) pe_int (fun _ _ => rfl)) (pa_cons (pe_op op_sub (pe_num (by rfl) T.nG) (pe_ix ix_tup (pv 0) pe_int (fun _ _ => rfl))) (pa_cons (pe_ix ix_tup (pv 0) pe_int (fun _ _ => rfl)) pa_nil))))), ?_⟩
    refine ⟨_, rfl, t, _, _, nV a, rfl, rfl, hq, rfl, _, rfl, t, _, _, nV c, rfl, rfl, hq, rfl, _, _, rfl, rfl, _, rfl, t, _, _, nV b', rfl, rfl, hq, rfl, (by show 3 ≤ sizeLine; decide), fun p np => k _ p ?_ (Same.new np)⟩
    rw [upd_same]
    show some (HO.tup [V.int (a : Int), V.int (65535 - (c : Int)), V.int (b' : Int)]) = _
    rw [show (65535 : Int) - (c : Int) = ((65535 - c : Nat) : Int) by omega]
    rfl
/-! ### turned_about_y -/
def spTY : Sp := fun vs H Q _ => ∃ (t : Addr) (x : List Nat), vs = [.ref t] ∧ H t = some (.tup (x.map nV)) ∧ MM.Pt3 x ∧ ∀ (H' : Hp) (p : Addr), H' p = some (.tup ((MM.tY x).map nV)) → Same H H' → Q (.ref p) H'
theorem scTY : FnScope ["corner"] ["corner"] (defScope sturned_about_y) := ⟨rfl, rfl, rfl, by decide +kernel, rfl, by decide +kernel, by decide +kernel⟩
theorem ok_tY (T : Txt K mg A) : ∃ fd, FnOk P w K mg base CX0 1 A.fturned_about_y fd ["corner"] spTY ∧ Binds K fd ["corner"] [] ∧ PySem.W.keepIn K (.ref A.fturned_about_y) = true := by
  obtain ⟨fd, F, b⟩ := T.bturned_about_y
  refine ⟨fd, F.ok scTY (fun vs H Q E h => ?_) (fun cdv A' outer s H vs Q E hr h => ?_), b, F.kp⟩
  · obtain ⟨t, x, rfl, _⟩ := h
    rfl
  · obtain ⟨t, x, rfl, ht, hx, k⟩ := h
    obtain ⟨a, b', c, rfl, h1, h2, h3⟩ := hx.ex
    have hq := SqT.of (K := K) ht
    refine ⟨_, pss_one (ps_ret (pe_tup (pa_cons (pe_ix ix_tup (pv 0) pe_int (fun _ _ => rfl)) (pa_cons (pe_ix ix_tup (pv 0) pe_int (fun _ _ => rfl)) (pa_cons (pe_op op_sub (pe_num (by rfl) T.nG) (pe_ix ix_tup (pv 0) pe_int (fun _ _ => rfl))) pa_nil))))), ?_⟩
    refine ⟨_, rfl, t, _, _, nV c, rfl, rfl, hq, rfl, _, rfl, t, _, _, nV b', rfl, rfl, hq, rfl, _, rfl, t, _, _, nV a, rfl, rfl, hq, rfl, _, _, rfl, rfl, (by show 3 ≤ sizeLine; decide), fun p np => k _ p ?_ (Same.new np)⟩
    rw [upd_same]
    show some (HO.tup [V.int (c : Int), V.int (b' : Int), V.int (65535 - (a : Int))]) = _
    rw [show (65535 : Int) - (a : Int) = ((65535 - a : Nat) : Int) by omega]
    rfl
/-! ### turned_about_z -/
def spTZ : Sp := fun vs H Q _ => ∃ (t : Addr) (x : List Nat), vs = [.ref t] ∧ H t = some (.tup (x.map nV)) ∧ MM.Pt3 x ∧ ∀ (H' : Hp) (p : Addr), H' p = some (.tup ((MM.tZ x).map nV)) → Same H H' → Q (.ref p) H'
theorem scTZ : FnScope ["corner"] ["corner"] (defScope sturned_about_z) := ⟨rfl, rfl, rfl, by decide +kernel, rfl, by decide +kernel, by decide +kernel⟩
theorem ok_tZ (T : Txt K mg A) : ∃ fd, FnOk P w K mg base CX0 1 A.fturned_about_z fd ["corner"] spTZ ∧ Binds K fd ["corner"] [] ∧ PySem.W.keepIn K (.ref A.fturned_about_z) = true := by
  obtain ⟨fd, F, b⟩ := T.bturned_about_z
  refine ⟨fd, F.ok scTZ (fun vs H Q E h => ?_) (fun cdv A' outer s H vs Q E hr h => ?_), b, F.kp⟩
  · obtain ⟨t, x, rfl, _⟩ := h
    rfl
  · obtain ⟨t, x, rfl, ht, hx, k⟩ := h
    obtain ⟨a, b', c, rfl, h1, h2, h3⟩ := hx.ex
    have hq := SqT.of (K := K) ht
    refine ⟨_, pss_one (ps_ret (pe_tup (pa_cons (pe_op op_sub (pe_num (by rfl) T.nG) (pe_ix ix_tup (pv 0) pe_int (fun _ _ => rfl))) (pa_cons (pe_ix ix_tup (pv 0) pe_int (fun _ _ => rfl)) (pa_cons (pe_ix ix_tup (pv 0) pe_int (fun _ _ => rfl)) pa_nil))))), ?_⟩
    refine ⟨_, rfl, t, _, _, nV b', rfl, rfl, hq, rfl, _, _, rfl, rfl, _, rfl, t, _, _, nV a, rfl, rfl, hq, rfl, _, rfl, t, _, _, nV c, rfl, rfl, hq, rfl, (by show 3 ≤ sizeLine; decide), fun p np => k _ p ?_ (Same.new np)⟩
    rw [upd_same]
    show some (HO.tup [V.int (65535 - (b' : Int)), V.int (a : Int), V.int (c : Int)]) = _
    rw [show (65535 : Int) - (b' : Int) = ((65535 - b' : Nat) : Int) by omega]
    rfl
/-! ### turned_corner -/
def spTk : Sp := fun vs H Q _ => ∃ (t : Addr) (x : List Nat) (n : Nat), vs = [.ref t, .int (n : Int)] ∧ H t = some (.tup (x.map nV)) ∧ MM.Pt3 x ∧ n < 24 ∧ ∀ (H' : Hp) (p : Addr), H' p = some (.tup ((MM.turnL n x).map nV)) → Same H H' → Q (.ref p) H'
theorem scTk : FnScope ["corner", "k", "turn"] ["corner", "k"] (defScope sturned_corner) := ⟨rfl, rfl, rfl, by decide +kernel, rfl, by decide +kernel, by decide +kernel⟩
theorem ok_tk (T : Txt K mg A) : ∃ fd, FnOk P w K mg base CX0 2 A.fturned_corner fd ["corner", "k"] spTk ∧ Binds K fd ["corner", "k"] [] ∧ PySem.W.keepIn K (.ref A.fturned_corner) = true := by
  obtain ⟨fd, F, b⟩ := T.bturned_corner
  obtain ⟨fdX, GX, bX, kX⟩ := ok_tX (P := P) (w := w) (base := base) T
  obtain ⟨fdY, GY, bY, kY⟩ := ok_tY (P := P) (w := w) (base := base) T
  obtain ⟨fdZ, GZ, bZ, kZ⟩ := ok_tZ (P := P) (w := w) (base := base) T
  obtain ⟨aX, gX, sX⟩ := T.t_TURNS_ABOUT_X
  obtain ⟨aY, gY, sY⟩ := T.t_TURNS_ABOUT_Y
  refine ⟨fd, F.ok scTk (fun vs H Q E h => ?_) (fun cdv A' outer s H vs Q E hr h => ?_), b, F.kp⟩
  · obtain ⟨t, x, n, rfl, _⟩ := h
    rfl
  · obtain ⟨t, x, n, rfl, ht, hx, hn, k⟩ := h
    refine ⟨_, pss_cons (ps_for PassesOwn.never rfl (pi_range1 (by rfl) T.range (pa_cons (pe_ix ix_tup (pe_gref (by rfl) gX) (pe_op op_fdiv (pv 1) pe_int) (fun _ _ => rfl)) pa_nil)) (pg_name (i := 2) scTk.nd rfl (Or.inl rfl))
        (pss_one (ps_set (i := 0) scTk.nd rfl (Or.inl rfl) (pe_call GX hr (by rfl) T.gturned_about_x kX bX .nil pass0 (pa_cons (pv 0) pa_nil)))))
      (pss_cons (ps_for PassesOwn.never rfl (pi_range1 (by rfl) T.range (pa_cons (pe_ix ix_tup (pe_gref (by rfl) gY) (pe_op op_fdiv (pv 1) pe_int) (fun _ _ => rfl)) pa_nil)) (pg_name (i := 2) scTk.nd rfl (Or.inl rfl))
        (pss_one (ps_set (i := 0) scTk.nd rfl (Or.inl rfl) (pe_call GY hr (by rfl) T.gturned_about_y kY bY .nil pass0 (pa_cons (pv 0) pa_nil)))))
      (pss_cons (ps_for PassesOwn.never rfl (pi_range1 (by rfl) T.range (pa_cons (pe_op op_mod (pv 1) pe_int) pa_nil)) (pg_name (i := 2) scTk.nd rfl (Or.inl rfl))
        (pss_one (ps_set (i := 0) scTk.nd rfl (Or.inl rfl) (pe_call GZ hr (by rfl) T.gturned_about_z kZ bZ .nil pass0 (pa_cons (pv 0) pa_nil)))))
      (pss_one (ps_ret (pv 0))))), ?_⟩
    have hq : n / 4 < 6 := by omega
    obtain ⟨tx, ty, bx, bY'⟩ := MM.times_at hq
    have e4 : (n : Int) / 4 = ((n / 4 : Nat) : Int) := by omega
    have e5 : (n : Int) % 4 = ((n % 4 : Nat) : Int) := by omega
    have atX : atI (([0, 1, 2, 3, 0, 0] : List Int).map V.int) ((n : Int) / 4) = some (.int (MM.timesX (n / 4) : Int)) := by
      rw [e4]
      exact atI_nat (by rw [List.getElem?_map, tx]; rfl)
    have atY : atI (([0, 0, 0, 0, 1, 3] : List Int).map V.int) ((n : Int) / 4) = some (.int (MM.timesY (n / 4) : Int)) := by
      rw [e4]
      exact atI_nat (by rw [List.getElem?_map, ty]; rfl)
    have pX := fun i => (MM.iter_is (fun x h => MM.pt_X h) hx i).1
    refine ⟨_, rfl, _, _, rfl, rfl, ⟨by decide, by decide⟩, aX, _, _, _, rfl, rfl, sX _, atX, ((MM.timesX (n / 4) : Nat) : Int), rfl, by omega, by omega, for_range (n := MM.timesX (n / 4))
      (fun i σ H' => ∃ (t' : Addr) (v2 : Option V), σ = [some (.ref t'), some (.int (n : Int)), v2] ∧ H' t' = some (.tup ((MM.iter MM.tX i x).map nV)) ∧ Same H H') ⟨t, none, rfl, ht, Same.refl H⟩ ?_ ?_⟩
    · rintro i σ H' hi ⟨t', v2, rfl, h1, s1⟩
      refine ⟨_, rfl, t', _, rfl, h1, pX i, fun H2 p hp s2 => ?_⟩
      exact ⟨p, _, rfl, hp, s1.trans s2⟩
    · rintro σ H1 ⟨t1, v2, rfl, h1, s1⟩
      have pY := fun i => (MM.iter_is (fun x h => MM.pt_Y h) (pX (MM.timesX (n / 4))) i).1
      refine ⟨_, rfl, _, _, rfl, rfl, ⟨by decide, by decide⟩, aY, _, _, _, rfl, rfl, sY _, atY, ((MM.timesY (n / 4) : Nat) : Int), rfl, by omega, by omega, for_range (n := MM.timesY (n / 4))
        (fun i σ H' => ∃ (t' : Addr) (v2 : Option V), σ = [some (.ref t'), some (.int (n : Int)), v2] ∧ H' t' = some (.tup ((MM.iter MM.tY i (MM.iter MM.tX (MM.timesX (n / 4)) x)).map nV)) ∧ Same H H') ⟨t1, v2, rfl, h1, s1⟩ ?_ ?_⟩
      · rintro i σ H' hi ⟨t', v2, rfl, h1, s1⟩
        refine ⟨_, rfl, t', _, rfl, h1, pY i, fun H2 p hp s2 => ?_⟩
        exact ⟨p, _, rfl, hp, s1.trans s2⟩
      · rintro σ H2 ⟨t2, v2, rfl, h2, s2⟩
        have pZ := fun i => (MM.iter_is (fun x h => MM.pt_Z h) (pY (MM.timesY (n / 4))) i).1
        refine ⟨_, rfl, _, _, rfl, rfl, (by show (0 : Int) < 4; decide), ((n % 4 : Nat) : Int), ?_, by omega, by omega, for_range (n := n % 4)
          (fun i σ H' => ∃ (t' : Addr) (v2 : Option V), σ = [some (.ref t'), some (.int (n : Int)), v2] ∧ H' t' = some (.tup ((MM.iter MM.tZ i (MM.iter MM.tY (MM.timesY (n / 4)) (MM.iter MM.tX (MM.timesX (n / 4)) x))).map nV)) ∧ Same H H') ⟨t2, v2, rfl, h2, s2⟩ ?_ ?_⟩
        · show [V.int ((n : Int) % 4)] = _
          rw [e5]
        · rintro i σ H' hi ⟨t', v2, rfl, h1, s1⟩
          refine ⟨_, rfl, t', _, rfl, h1, pZ i, fun H2 p hp s2 => ?_⟩
          exact ⟨p, _, rfl, hp, s1.trans s2⟩
        · rintro σ H3 ⟨t3, v2, rfl, h3, s3⟩
          exact ⟨_, rfl, k H3 t3 h3 s3⟩
/-! ### turned_mesh -/
def spTm (A : Adr) : Sp := fun vs H Q _ => ∃ (m : Addr) (cs fs : List (List Nat)) (n : Nat), vs = [.ref m, .int (n : Int)] ∧ MeshAt A H m cs fs ∧ (∀ x ∈ cs, MM.Pt3 x) ∧ cs.length ≤ 64 ∧ n < 24 ∧ ∀ (H' : Hp) (p : Addr), MeshAt A H' p (cs.map (MM.turnL n)) fs → Q (.ref p) H'
theorem scTm : FnScope ["mesh", "k", "corner"] ["mesh", "k"] (defScope sturned_mesh) := ⟨rfl, rfl, rfl, by decide +kernel, rfl, by decide +kernel, by decide +kernel⟩
theorem ok_tm (T : Txt K mg A) : ∃ fd, FnOk P w K mg base CX0 3 A.fturned_mesh fd ["mesh", "k"] (spTm A) ∧ Binds K fd ["mesh", "k"] [] ∧ PySem.W.keepIn K (.ref A.fturned_mesh) = true := by
  obtain ⟨fd, F, b⟩ := T.bturned_mesh
  obtain ⟨fdK, GK, bK, kK⟩ := ok_tk (P := P) (w := w) (base := base) T
  obtain ⟨fdM, GM, bM⟩ := ok_mi (P := P) (w := w) (base := base) T
  refine ⟨fd, F.ok scTm (fun vs H Q E h => ?_) (fun cdv A' outer s H vs Q E hr h => ?_), b, F.kp⟩
  · obtain ⟨m, cs, fs, n, rfl, _⟩ := h
    rfl
  · obtain ⟨m, cs, fs, n, rfl, ⟨dm, cl, tl, cas, tas, M⟩, hc, h64, hn, k⟩ := h
    refine ⟨_, pss_one (ps_ret (pe_make T.mkM GM hr (by rfl) T.gM bM .nil pass0 (pa_cons (pe_lc (own := [("corner", 2)]) rfl scTm.nd (pi_list (pe_fld (pv 0) rfl)) (blkOk_at (N := ["mesh", "k", "corner"]) (sc := defScope sturned_mesh) (by decide +kernel)) (fun _ _ _ _ _ => pg_name (i := 2) scTm.nd rfl (Or.inl rfl)) (fun _ _ _ _ _ => pts_nil) (fun _ _ _ _ _ => (pe_call GK hr (by rfl) T.gturned_corner kK bK .nil pass0 (pa_cons (pv 2) (pa_cons (pv 1) pa_nil))))) (pa_cons (pe_fld (pv 0) rfl) pa_nil)))), ?_⟩
    refine ⟨_, rfl, m, A.cM, dm, _, _, rfl, M.ins, T.cM, T.nMc, mf_c cl tl, cl, rfl, ⟨_, SqL.of M.c⟩, fun D hD => lc_list (K := K) (a := cl) (xs := cas.map V.ref) (fun i H' => ∃ bs : List Addr, H' D = some (.lst (bs.map V.ref)) ∧ TupsAt H' bs ((cs.take i).map (MM.turnL n)) ∧ Same H H') ⟨[], upd_same, trivial, Same.new hD⟩ ?_ ?_ ?_⟩
    · rintro i H' _ ⟨_, _, _, p3⟩
      exact SqL.of (p3 _ _ M.c)
    · rintro i y H' hy ⟨bs, p1, p2, p3⟩
      obtain ⟨c, hcc, rfl⟩ := refs_at hy
      obtain ⟨x, hx, hxt⟩ := M.cT.at_ i hcc
      have hi : i < cs.length := (List.getElem?_eq_some_iff.mp hx).1
      have hbl : bs.length ≤ i := by
        have := p2.len
        rw [List.length_map, List.length_take] at this
        omega
      refine ⟨rfl, yesT ?_⟩
      refine ⟨_, rfl, _, rfl, c, x, n, rfl, p3 _ _ hxt, hc x (List.mem_of_getElem? hx), hn, fun H2 p hp s2 => ?_⟩
      have h2 := s2 _ _ p1
      have kt : ∀ (o : HO) b ys, H2 b = some (.tup ys) → upd H2 D o b = some (.tup ys) := fun o b ys z => by
        rw [upd_ne (ne_of z h2 (by intro z; cases z))]
        exact z
      refine ⟨_, h2, ?_, bs ++ [p], ?_, ?_, fun b o q => ?_⟩
      · rw [List.length_map]
        exact Nat.lt_of_le_of_lt (by omega : _ ≤ 1000) (by decide)
      · rw [upd_same, List.map_append]
        rfl
      · rw [List.take_add_one, hx, List.map_append]
        exact TupsAt.snoc (kt _ _ _ hp) ((p2.same s2).mono (kt _))
      · rw [upd_ne (ne_of_none q hD)]
        exact s2 _ _ (p3 _ _ q)
    · rintro H2 ⟨bs, p1, p2, p3⟩
      rw [List.length_map, M.cT.len, List.take_length] at p2
      have M2 := M.same p3
      refine ⟨_, rfl, m, A.cM, dm, _, _, rfl, M2.ins, T.cM, T.nMt, mf_t cl tl, ?_⟩
      intro p dp np ndp nep
      refine ⟨p, dp, D, tl, rfl, upd_same, fun H4 i4 kp4 => ⟨rfl, ?_⟩⟩
      have s4 := Same.made np ndp kp4
      have M4 := M2.same s4
      exact k H4 p ⟨dp, D, tl, bs, tas, i4, s4 _ _ p1, M4.t, Ne.symm (ne_of_none M.t hD), p2.same s4, M4.tT⟩
end
/-! ### turned -/
def spTu (K : PySem.W.Frag) : Sp := fun vs H Q _ => ∃ (z : Nat) (a : Addr) (B : Bytes), vs = [.int (z : Int), .ref a] ∧ SqL K H a (B.map bV) ∧ ∀ (H' : Hp) (p : Addr), H' p = some (.lst ((due (.turned B z)).map V.int)) → Q (.ref p) H'
theorem scTu : FnScope ["k", "t", "mesh"] ["k", "t"] (defScope sturned) := ⟨rfl, rfl, rfl, by decide +kernel, rfl, by decide +kernel, by decide +kernel⟩
section
variable {P : Program} {w : World} {K : PySem.W.Frag} {mg : Str → Option Value} {base : Heap} {A : Adr}
theorem ok_tu {f : Addr} {fd : FuncData} (F : Fun K "turned" "turned" sturned f fd) (T : Txt K mg A) : FnOk P w K mg base CX0 12 f fd ["k", "t"] (spTu K) := by
  obtain ⟨fdM, GM, bM, kM⟩ := ok_mo (P := P) (w := w) (base := base) T
  obtain ⟨fdR, GR, bR, kR⟩ := ok_ref (P := P) (w := w) (base := base) T
  obtain ⟨fdT, GT, bT, kT⟩ := ok_tel (P := P) (w := w) (base := base) T
  obtain ⟨fdX, GX, bX, kX⟩ := ok_tx (P := P) (w := w) (base := base) T
  obtain ⟨fdE, GE, bE, kE⟩ := ok_tm (P := P) (w := w) (base := base) T
  refine F.ok scTu (fun vs H Q E h => ?_) (fun cdv A' outer s H vs Q E hr h => ?_)
  · obtain ⟨z, a, B, rfl, _⟩ := h
    rfl
  · obtain ⟨z, a, B, rfl, hs, k⟩ := h
    have hr2 := (hr.mono (show 2 ≤ 11 by decide)).c
    refine ⟨_, pss_cons (ps_if (pt_cmpR op_gt (pe_callB call_len_seq (by rfl) T.len PySem.boot_len (pa_cons (pv 1) pa_nil)) (pe_num (by rfl) T.nMB) (nomark _)) (pss_one (ps_ret (pe_callC GR hr2 (by rfl) T.gRef kR bR pass0 (pa_cons (pe_num (by rfl) T.nTL) pa_nil)))) pss_nil)
      (pss_cons (ps_set (i := 2) scTu.nd rfl (Or.inl rfl) (pe_call GM hr (by rfl) T.gMo kM bM .nil pass0 (pa_cons (pv 1) pa_nil)))
      (pss_cons (ps_if (pt_cmp (pc_isN (pv 2))) (pss_one (ps_ret (pe_callC GR hr2 (by rfl) T.gRef kR bR pass0 (pa_cons (pe_num (by rfl) T.nNS) pa_nil)))) pss_nil)
      (pss_cons (ps_if (pt_cmpR op_gt (pv 0) (pe_num (by rfl) T.n_GREATEST_TURN) (nomark _)) (pss_one (ps_ret (pe_callC GR hr2 (by rfl) T.gRef kR bR pass0 (pa_cons (pe_num (by rfl) T.n_OUT_OF_RANGE) pa_nil)))) pss_nil)
      (pss_one (ps_ret (pe_call GT (hr.mono (show 2 ≤ 11 by decide)) (by rfl) T.gTel kT bT .nil pass0 (pa_cons (pe_call GX (hr.mono (show 2 ≤ 11 by decide)) (by rfl) T.gtext_of kX bX .nil pass0 (pa_cons (pe_call GE (hr.mono (show 3 ≤ 11 by decide)) (by rfl) T.gturned_mesh kE bE .nil pass0 (pa_cons (pv 2) (pa_cons (pv 0) pa_nil))) pa_nil)) pa_nil))))))), ?_⟩
    refine ⟨_, rfl, a, _, rfl, .inl hs, _, _, rfl, rfl, _, rfl, ?_⟩
    rw [List.length_map]
    by_cases hl : 16384 < B.length
    · rw [decide_eq_true (show (16384 : Int) < (B.length : Int) by omega)]; refine iteT ?_
      refine ⟨-2, rfl, fun H' p hp => k H' p ?_⟩
      have e : due (.turned B z) = BodiesNeutral.numbersOf (Bead.says (-2)) := congrArg _ (looked_long hl _)
      rw [e, says_is]
      exact hp
    · rw [decide_eq_false (show ¬ (16384 : Int) < (B.length : Int) by omega)]; refine iteF ?_
      have e1 : due (.turned B z) = BodiesNeutral.numbersOf (Bodies.ofMesh B fun M => if 24 ≤ z then Bead.says (-1) else Bead.gives (M.turned z).text) := congrArg _ (looked_short hl _)
      refine ⟨_, rfl, a, B, rfl, hs, fun cs fs e h3 f3 h64 h128 H1 m M s1 => ?_, fun q e H1 s1 => ?_⟩
      · rw [of_mesh e] at e1
        have ok := MM.read_ok e
        have cb := MM.corner_bound ok.cs h3
        have fb := MM.face_bound ok.fs f3
        have hp3 : ∀ x ∈ cs, MM.Pt3 x := fun x hx => ⟨h3 x hx, cb x hx⟩
        refine ⟨_, rfl, _, rfl, ?_⟩
        rw [decide_eq_false (by intro z; cases z)]; refine iteF ?_
        refine ⟨_, rfl, _, _, rfl, rfl, _, rfl, ?_⟩
        by_cases hz : 24 ≤ z
        · rw [decide_eq_true (show (23 : Int) < (z : Int) by omega)]; refine iteT ?_
          refine ⟨-1, rfl, fun H' p hp => k H' p ?_⟩
          rw [e1, if_pos hz, says_is]
          exact hp
        · rw [decide_eq_false (show ¬ (23 : Int) < (z : Int) by omega)]; refine iteF ?_
          rw [if_neg hz] at e1
          have t3 : ∀ x ∈ cs.map (MM.turnL z), MM.Pt3 x := fun x hx => by
            obtain ⟨y, hy, rfl⟩ := List.mem_map.mp hx
            exact (MM.turn_is (by omega) (hp3 y hy)).1
          have fb2 : ∀ x ∈ fs, ∀ n ∈ x, n < 100000 := fun x hx n hn => by
            have h9 : n < (cs.map MM.cornerOf).length := fb x hx n hn
            rw [List.length_map] at h9
            omega
          have cb2 : ∀ x ∈ cs.map (MM.turnL z), ∀ n ∈ x, n < 100000 := fun x hx n hn => by
            have := (t3 x hx).le n hn
            omega
          have et : (⟨(cs.map (MM.turnL z)).map MM.cornerOf, fs.map MM.faceOf⟩ : Bead.Mesh) = (⟨cs.map MM.cornerOf, fs.map MM.faceOf⟩ : Bead.Mesh).turned z := by
            unfold Bead.Mesh.turned
            congr 1
            rw [List.map_map, List.map_map]
            exact List.map_congr_left fun x hx => (MM.turn_is (by omega) (hp3 x hx)).2
          refine ⟨_, rfl, _, rfl, m, cs, fs, z, rfl, M, hp3, h64, by omega, fun H2 p hp => ?_⟩
          refine ⟨p, cs.map (MM.turnL z), fs, rfl, hp, fun x hx => (t3 x hx).len, f3, cb2, fb2, by rw [List.length_map]; exact h64, h128, fun H4 p4 hp4 => ?_⟩
          rw [et] at hp4
          refine ⟨p4, _, rfl, hp4, ?_, fun H' p' hp' => k H' p' ?_⟩
          · rw [List.length_map, ← et, MM.text_lines _ _ (fun x hx => (t3 x hx).len) f3]
            refine Nat.le_trans (MM.flat_len (k := 20) fun l hl => ?_) ?_
            · rcases List.mem_append.mp hl with y | y
              · obtain ⟨x, hx, rfl⟩ := List.mem_map.mp y
                exact MM.line_len (t3 x hx).len (cb2 x hx)
              · obtain ⟨x, hx, rfl⟩ := List.mem_map.mp y
                exact MM.line_len (f3 x hx) (fb2 x hx)
            · rw [List.length_append, List.length_map, List.length_map, List.length_map]
              omega
          · rw [e1, gives_is]
            exact hp'
      · rw [of_nomesh e] at e1
        refine ⟨_, rfl, _, rfl, ?_⟩
        rw [decide_eq_true rfl]; refine iteT ?_
        refine ⟨-6, rfl, fun H' p hp => k H' p ?_⟩
        rw [e1, says_is]
        exact hp
end
open PySem.W (WData) in
theorem req_tu {K : PySem.W.Frag} {H : Hp} {z : Int} {a : Addr} {ns : List Int} {E : XK} (hz : 0 ≤ z) (hs : SqL K H a (ns.map V.int)) (h : ns.all (PySem.W.Codec.inInt 0 255) = true) :
    spTu K [.int z, .ref a] H (fun v H' => Dw K H' v (.list ((PyWqaebs.turned z ns).map WData.int))) E := by
  refine ⟨z.toNat, a, BodiesNeutral.text ns, by rw [Int.toNat_of_nonneg hz], ?_, fun H' p hp => .lst (SqL.of hp) (dw_ints _)⟩
  rw [← text_back h]
  exact hs
theorem all_mk {P : Program} {w : World} {K : PySem.W.Frag} {h : Heap} {mg : Str → Option Value} {fa cF fF cM fM cR fR fAt fSee fDig fSkip fBeg fRd fRn fRl fTc fTt fRm fline_of ftext_of fturned_about_x fturned_about_y fturned_about_z fturned_corner fturned_mesh fAns fRef fTel fMo fturned : Addr} (X : K.In h) (G : h.Ns mainGlobals mg) (hfa : mg "turned" = some (.ref fa))
    {oc0 kv0 dc0 pm0 cd0 ct0 : Value} {od0 an0 : Option Addr} {sl0 : Array (Option Value)}
    {oc1 kv1 dc1 pm1 cd1 ct1 : Value} {od1 an1 : Option Addr} {sl1 : Array (Option Value)}
    {oc2 kv2 dc2 pm2 cd2 ct2 : Value} {od2 an2 : Option Addr} {sl2 : Array (Option Value)}
    {oc3 kv3 dc3 pm3 cd3 ct3 : Value} {od3 an3 : Option Addr} {sl3 : Array (Option Value)}
    {oc4 kv4 dc4 pm4 cd4 ct4 : Value} {od4 an4 : Option Addr} {sl4 : Array (Option Value)}
    {oc5 kv5 dc5 pm5 cd5 ct5 : Value} {od5 an5 : Option Addr} {sl5 : Array (Option Value)}
    {oc6 kv6 dc6 pm6 cd6 ct6 : Value} {od6 an6 : Option Addr} {sl6 : Array (Option Value)}
    {oc7 kv7 dc7 pm7 cd7 ct7 : Value} {od7 an7 : Option Addr} {sl7 : Array (Option Value)}
    {oc8 kv8 dc8 pm8 cd8 ct8 : Value} {od8 an8 : Option Addr} {sl8 : Array (Option Value)}
    {oc9 kv9 dc9 pm9 cd9 ct9 : Value} {od9 an9 : Option Addr} {sl9 : Array (Option Value)}
    {oc10 kv10 dc10 pm10 cd10 ct10 : Value} {od10 an10 : Option Addr} {sl10 : Array (Option Value)}
    {oc11 kv11 dc11 pm11 cd11 ct11 : Value} {od11 an11 : Option Addr} {sl11 : Array (Option Value)}
    {oc12 kv12 dc12 pm12 cd12 ct12 : Value} {od12 an12 : Option Addr} {sl12 : Array (Option Value)}
    {oc13 kv13 dc13 pm13 cd13 ct13 : Value} {od13 an13 : Option Addr} {sl13 : Array (Option Value)}
    {oc14 kv14 dc14 pm14 cd14 ct14 : Value} {od14 an14 : Option Addr} {sl14 : Array (Option Value)}
    {oc15 kv15 dc15 pm15 cd15 ct15 : Value} {od15 an15 : Option Addr} {sl15 : Array (Option Value)}
    {oc16 kv16 dc16 pm16 cd16 ct16 : Value} {od16 an16 : Option Addr} {sl16 : Array (Option Value)}
    {oc17 kv17 dc17 pm17 cd17 ct17 : Value} {od17 an17 : Option Addr} {sl17 : Array (Option Value)}
    {oc18 kv18 dc18 pm18 cd18 ct18 : Value} {od18 an18 : Option Addr} {sl18 : Array (Option Value)}
    {oc19 kv19 dc19 pm19 cd19 ct19 : Value} {od19 an19 : Option Addr} {sl19 : Array (Option Value)}
    {oc20 kv20 dc20 pm20 cd20 ct20 : Value} {od20 an20 : Option Addr} {sl20 : Array (Option Value)}
    {oc21 kv21 dc21 pm21 cd21 ct21 : Value} {od21 an21 : Option Addr} {sl21 : Array (Option Value)}
    {oc22 kv22 dc22 pm22 cd22 ct22 : Value} {od22 an22 : Option Addr} {sl22 : Array (Option Value)}
    {oc23 kv23 dc23 pm23 cd23 ct23 : Value} {od23 an23 : Option Addr} {sl23 : Array (Option Value)}
    {oc24 kv24 dc24 pm24 cd24 ct24 : Value} {od24 an24 : Option Addr} {sl24 : Array (Option Value)}
    {oc25 kv25 dc25 pm25 cd25 ct25 : Value} {od25 an25 : Option Addr} {sl25 : Array (Option Value)}
    {t26 : Tok}
    {t27 : Tok}
    {t28 : Tok}
    {t29 : Tok}
    {t30 : Tok}
    {t31 : Tok}
    {t32 : Tok}
    {t33 : Tok}
    {t34 : Tok}
    {t35 : Tok}
    {t36 : Tok}
    {t37 : Tok}
    {t38 : Tok}
    {t39 : Tok}
    {a40 : Addr}
    {a41 : Addr}
    (h1 : PySem.W.nsIn K mainGlobals "MeshFault" = some (some (.ref cF)))
    (h2 : PySem.W.findIn K (.ref cF) "__init__" = some (some (.ref fF)))
    (h3 : exIn K cF fF ["place"] = true)
    (h4 : fnCls K fF = true)
    (h5 : PySem.W.keepIn K (.ref cF) = true)
    (h6 : K.lookup fF = some ⟨oc0, od0, .func (PySem.W.fnOf "__init__" "MeshFault.__init__" (defArgs sXI) (defBody sXI) (defScope sXI) .none kv0 dc0 pm0 an0 cd0 ct0), sl0⟩)
    (h7 : PySem.W.codeIn K cd0 "MeshFault.__init__" = true)
    (h8 : PySem.W.keepIn K (.ref fF) = true)
    (h9 : PySem.W.nsIn K mainGlobals "Mesh" = some (some (.ref cM)))
    (h10 : PySem.W.findIn K (.ref cM) "__init__" = some (some (.ref fM)))
    (h11 : PySem.W.isFn K (.ref fM) = true)
    (h12 : K.lookup fM = some ⟨oc1, od1, .func (PySem.W.fnOf "__init__" "Mesh.__init__" (defArgs sMI) (defBody sMI) (defScope sMI) .none kv1 dc1 pm1 an1 cd1 ct1), sl1⟩)
    (h13 : PySem.W.codeIn K cd1 "Mesh.__init__" = true)
    (h14 : PySem.W.keepIn K (.ref fM) = true)
    (h15 : PySem.W.plainGet K cM Str.empty = true)
    (h16 : PySem.W.hasDictIn K cM = true)
    (h17 : PySem.W.plainOver K cM = true)
    (h18 : PySem.W.findIn K (.ref cM) "__setattr__" = some (some (.builtin "object.__setattr__")))
    (h19 : PySem.W.makesIn K cM = true)
    (h20 : PySem.W.keepIn K (.ref cM) = true)
    (h21 : PySem.W.findIn K (.ref cM) "corners" = some none)
    (h22 : PySem.W.findIn K (.ref cM) "triangles" = some none)
    (h23 : PySem.W.nsIn K mainGlobals "Reader" = some (some (.ref cR)))
    (h24 : PySem.W.findIn K (.ref cR) "__init__" = some (some (.ref fR)))
    (h25 : PySem.W.isFn K (.ref fR) = true)
    (h26 : K.lookup fR = some ⟨oc2, od2, .func (PySem.W.fnOf "__init__" "Reader.__init__" (defArgs sRI) (defBody sRI) (defScope sRI) .none kv2 dc2 pm2 an2 cd2 ct2), sl2⟩)
    (h27 : PySem.W.codeIn K cd2 "Reader.__init__" = true)
    (h28 : PySem.W.keepIn K (.ref fR) = true)
    (h29 : PySem.W.plainGet K cR Str.empty = true)
    (h30 : PySem.W.hasDictIn K cR = true)
    (h31 : PySem.W.plainOver K cR = true)
    (h32 : PySem.W.findIn K (.ref cR) "__setattr__" = some (some (.builtin "object.__setattr__")))
    (h33 : PySem.W.makesIn K cR = true)
    (h34 : PySem.W.keepIn K (.ref cR) = true)
    (h35 : PySem.W.findIn K (.ref cR) "signs" = some none)
    (h36 : PySem.W.findIn K (.ref cR) "place" = some none)
    (h37 : PySem.W.findIn K (.ref cR) "at_end" = some (some (.ref fAt)))
    (h38 : PySem.W.isFn K (.ref fAt) = true)
    (h39 : K.lookup fAt = some ⟨oc3, od3, .func (PySem.W.fnOf "at_end" "Reader.at_end" (defArgs sAt) (defBody sAt) (defScope sAt) .none kv3 dc3 pm3 an3 cd3 ct3), sl3⟩)
    (h40 : PySem.W.codeIn K cd3 "Reader.at_end" = true)
    (h41 : PySem.W.keepIn K (.ref fAt) = true)
    (h42 : PySem.W.findIn K (.ref cR) "sees" = some (some (.ref fSee)))
    (h43 : PySem.W.isFn K (.ref fSee) = true)
    (h44 : K.lookup fSee = some ⟨oc4, od4, .func (PySem.W.fnOf "sees" "Reader.sees" (defArgs sSee) (defBody sSee) (defScope sSee) .none kv4 dc4 pm4 an4 cd4 ct4), sl4⟩)
    (h45 : PySem.W.codeIn K cd4 "Reader.sees" = true)
    (h46 : PySem.W.keepIn K (.ref fSee) = true)
    (h47 : PySem.W.findIn K (.ref cR) "sees_digit" = some (some (.ref fDig)))
    (h48 : PySem.W.isFn K (.ref fDig) = true)
    (h49 : K.lookup fDig = some ⟨oc5, od5, .func (PySem.W.fnOf "sees_digit" "Reader.sees_digit" (defArgs sDig) (defBody sDig) (defScope sDig) .none kv5 dc5 pm5 an5 cd5 ct5), sl5⟩)
    (h50 : PySem.W.codeIn K cd5 "Reader.sees_digit" = true)
    (h51 : PySem.W.keepIn K (.ref fDig) = true)
    (h52 : PySem.W.findIn K (.ref cR) "skip" = some (some (.ref fSkip)))
    (h53 : PySem.W.isFn K (.ref fSkip) = true)
    (h54 : K.lookup fSkip = some ⟨oc6, od6, .func (PySem.W.fnOf "skip" "Reader.skip" (defArgs sSkip) (defBody sSkip) (defScope sSkip) .none kv6 dc6 pm6 an6 cd6 ct6), sl6⟩)
    (h55 : PySem.W.codeIn K cd6 "Reader.skip" = true)
    (h56 : PySem.W.keepIn K (.ref fSkip) = true)
    (h57 : PySem.W.nsIn K mainGlobals "begins_number" = some (some (.ref fBeg)))
    (h58 : K.lookup fBeg = some ⟨oc7, od7, .func (PySem.W.fnOf "begins_number" "begins_number" (defArgs sBeg) (defBody sBeg) (defScope sBeg) .none kv7 dc7 pm7 an7 cd7 ct7), sl7⟩)
    (h59 : PySem.W.codeIn K cd7 "begins_number" = true)
    (h60 : PySem.W.keepIn K (.ref fBeg) = true)
    (h61 : PySem.W.nsIn K mainGlobals "read_digit" = some (some (.ref fRd)))
    (h62 : K.lookup fRd = some ⟨oc8, od8, .func (PySem.W.fnOf "read_digit" "read_digit" (defArgs sRd) (defBody sRd) (defScope sRd) .none kv8 dc8 pm8 an8 cd8 ct8), sl8⟩)
    (h63 : PySem.W.codeIn K cd8 "read_digit" = true)
    (h64 : PySem.W.keepIn K (.ref fRd) = true)
    (h65 : PySem.W.nsIn K mainGlobals "read_number" = some (some (.ref fRn)))
    (h66 : K.lookup fRn = some ⟨oc9, od9, .func (PySem.W.fnOf "read_number" "read_number" (defArgs sRn) (defBody sRn) (defScope sRn) .none kv9 dc9 pm9 an9 cd9 ct9), sl9⟩)
    (h67 : PySem.W.codeIn K cd9 "read_number" = true)
    (h68 : PySem.W.keepIn K (.ref fRn) = true)
    (h69 : PySem.W.nsIn K mainGlobals "read_line" = some (some (.ref fRl)))
    (h70 : K.lookup fRl = some ⟨oc10, od10, .func (PySem.W.fnOf "read_line" "read_line" (defArgs sRl) (defBody sRl) (defScope sRl) .none kv10 dc10 pm10 an10 cd10 ct10), sl10⟩)
    (h71 : PySem.W.codeIn K cd10 "read_line" = true)
    (h72 : PySem.W.keepIn K (.ref fRl) = true)
    (h73 : PySem.W.nsIn K mainGlobals "takes_corner" = some (some (.ref fTc)))
    (h74 : K.lookup fTc = some ⟨oc11, od11, .func (PySem.W.fnOf "takes_corner" "takes_corner" (defArgs sTc) (defBody sTc) (defScope sTc) .none kv11 dc11 pm11 an11 cd11 ct11), sl11⟩)
    (h75 : PySem.W.codeIn K cd11 "takes_corner" = true)
    (h76 : PySem.W.keepIn K (.ref fTc) = true)
    (h77 : PySem.W.nsIn K mainGlobals "takes_triangle" = some (some (.ref fTt)))
    (h78 : K.lookup fTt = some ⟨oc12, od12, .func (PySem.W.fnOf "takes_triangle" "takes_triangle" (defArgs sTt) (defBody sTt) (defScope sTt) .none kv12 dc12 pm12 an12 cd12 ct12), sl12⟩)
    (h79 : PySem.W.codeIn K cd12 "takes_triangle" = true)
    (h80 : PySem.W.keepIn K (.ref fTt) = true)
    (h81 : PySem.W.nsIn K mainGlobals "read_mesh" = some (some (.ref fRm)))
    (h82 : K.lookup fRm = some ⟨oc13, od13, .func (PySem.W.fnOf "read_mesh" "read_mesh" (defArgs sRm) (defBody sRm) (defScope sRm) .none kv13 dc13 pm13 an13 cd13 ct13), sl13⟩)
    (h83 : PySem.W.codeIn K cd13 "read_mesh" = true)
    (h84 : PySem.W.keepIn K (.ref fRm) = true)
    (h85 : PySem.W.nsIn K mainGlobals "line_of" = some (some (.ref fline_of)))
    (h86 : K.lookup fline_of = some ⟨oc14, od14, .func (PySem.W.fnOf "line_of" "line_of" (defArgs sline_of) (defBody sline_of) (defScope sline_of) .none kv14 dc14 pm14 an14 cd14 ct14), sl14⟩)
    (h87 : PySem.W.codeIn K cd14 "line_of" = true)
    (h88 : PySem.W.keepIn K (.ref fline_of) = true)
    (h89 : PySem.W.nsIn K mainGlobals "text_of" = some (some (.ref ftext_of)))
    (h90 : K.lookup ftext_of = some ⟨oc15, od15, .func (PySem.W.fnOf "text_of" "text_of" (defArgs stext_of) (defBody stext_of) (defScope stext_of) .none kv15 dc15 pm15 an15 cd15 ct15), sl15⟩)
    (h91 : PySem.W.codeIn K cd15 "text_of" = true)
    (h92 : PySem.W.keepIn K (.ref ftext_of) = true)
    (h93 : PySem.W.nsIn K mainGlobals "turned_about_x" = some (some (.ref fturned_about_x)))
    (h94 : K.lookup fturned_about_x = some ⟨oc16, od16, .func (PySem.W.fnOf "turned_about_x" "turned_about_x" (defArgs sturned_about_x) (defBody sturned_about_x) (defScope sturned_about_x) .none kv16 dc16 pm16 an16 cd16 ct16), sl16⟩)
    (h95 : PySem.W.codeIn K cd16 "turned_about_x" = true)
    (h96 : PySem.W.keepIn K (.ref fturned_about_x) = true)
    (h97 : PySem.W.nsIn K mainGlobals "turned_about_y" = some (some (.ref fturned_about_y)))
    (h98 : K.lookup fturned_about_y = some ⟨oc17, od17, .func (PySem.W.fnOf "turned_about_y" "turned_about_y" (defArgs sturned_about_y) (defBody sturned_about_y) (defScope sturned_about_y) .none kv17 dc17 pm17 an17 cd17 ct17), sl17⟩)
    (h99 : PySem.W.codeIn K cd17 "turned_about_y" = true)
    (h100 : PySem.W.keepIn K (.ref fturned_about_y) = true)
    (h101 : PySem.W.nsIn K mainGlobals "turned_about_z" = some (some (.ref fturned_about_z)))
    (h102 : K.lookup fturned_about_z = some ⟨oc18, od18, .func (PySem.W.fnOf "turned_about_z" "turned_about_z" (defArgs sturned_about_z) (defBody sturned_about_z) (defScope sturned_about_z) .none kv18 dc18 pm18 an18 cd18 ct18), sl18⟩)
    (h103 : PySem.W.codeIn K cd18 "turned_about_z" = true)
    (h104 : PySem.W.keepIn K (.ref fturned_about_z) = true)
    (h105 : PySem.W.nsIn K mainGlobals "turned_corner" = some (some (.ref fturned_corner)))
    (h106 : K.lookup fturned_corner = some ⟨oc19, od19, .func (PySem.W.fnOf "turned_corner" "turned_corner" (defArgs sturned_corner) (defBody sturned_corner) (defScope sturned_corner) .none kv19 dc19 pm19 an19 cd19 ct19), sl19⟩)
    (h107 : PySem.W.codeIn K cd19 "turned_corner" = true)
    (h108 : PySem.W.keepIn K (.ref fturned_corner) = true)
    (h109 : PySem.W.nsIn K mainGlobals "turned_mesh" = some (some (.ref fturned_mesh)))
    (h110 : K.lookup fturned_mesh = some ⟨oc20, od20, .func (PySem.W.fnOf "turned_mesh" "turned_mesh" (defArgs sturned_mesh) (defBody sturned_mesh) (defScope sturned_mesh) .none kv20 dc20 pm20 an20 cd20 ct20), sl20⟩)
    (h111 : PySem.W.codeIn K cd20 "turned_mesh" = true)
    (h112 : PySem.W.keepIn K (.ref fturned_mesh) = true)
    (h113 : PySem.W.nsIn K mainGlobals "answer" = some (some (.ref fAns)))
    (h114 : K.lookup fAns = some ⟨oc21, od21, .func (PySem.W.fnOf "answer" "answer" (defArgs sAns) (defBody sAns) (defScope sAns) .none kv21 dc21 pm21 an21 cd21 ct21), sl21⟩)
    (h115 : PySem.W.codeIn K cd21 "answer" = true)
    (h116 : PySem.W.keepIn K (.ref fAns) = true)
    (h117 : PySem.W.nsIn K mainGlobals "refusal" = some (some (.ref fRef)))
    (h118 : K.lookup fRef = some ⟨oc22, od22, .func (PySem.W.fnOf "refusal" "refusal" (defArgs sRef) (defBody sRef) (defScope sRef) .none kv22 dc22 pm22 an22 cd22 ct22), sl22⟩)
    (h119 : PySem.W.codeIn K cd22 "refusal" = true)
    (h120 : PySem.W.keepIn K (.ref fRef) = true)
    (h121 : PySem.W.nsIn K mainGlobals "telling" = some (some (.ref fTel)))
    (h122 : K.lookup fTel = some ⟨oc23, od23, .func (PySem.W.fnOf "telling" "telling" (defArgs sTel) (defBody sTel) (defScope sTel) .none kv23 dc23 pm23 an23 cd23 ct23), sl23⟩)
    (h123 : PySem.W.codeIn K cd23 "telling" = true)
    (h124 : PySem.W.keepIn K (.ref fTel) = true)
    (h125 : PySem.W.nsIn K mainGlobals "mesh_of" = some (some (.ref fMo)))
    (h126 : K.lookup fMo = some ⟨oc24, od24, .func (PySem.W.fnOf "mesh_of" "mesh_of" (defArgs sMo) (defBody sMo) (defScope sMo) .none kv24 dc24 pm24 an24 cd24 ct24), sl24⟩)
    (h127 : PySem.W.codeIn K cd24 "mesh_of" = true)
    (h128 : PySem.W.keepIn K (.ref fMo) = true)
    (h129 : PySem.W.nsIn K mainGlobals "turned" = some (some (.ref fturned)))
    (h130 : K.lookup fturned = some ⟨oc25, od25, .func (PySem.W.fnOf "turned" "turned" (defArgs sturned) (defBody sturned) (defScope sturned) .none kv25 dc25 pm25 an25 cd25 ct25), sl25⟩)
    (h131 : PySem.W.codeIn K cd25 "turned" = true)
    (h132 : PySem.W.keepIn K (.ref fturned) = true)
    (h133 : PySem.W.nsIn K mainGlobals "MOST_CORNERS" = some (some (.int 64 t26)))
    (h134 : PySem.W.nsIn K mainGlobals "MOST_TRIANGLES" = some (some (.int 128 t27)))
    (h135 : PySem.W.nsIn K mainGlobals "GREATEST_COORDINATE" = some (some (.int 65535 t28)))
    (h136 : PySem.W.nsIn K mainGlobals "GREATEST_TURN" = some (some (.int 23 t29)))
    (h137 : PySem.W.nsIn K mainGlobals "LINE_END" = some (some (.int 10 t30)))
    (h138 : PySem.W.nsIn K mainGlobals "BLANK" = some (some (.int 32 t31)))
    (h139 : PySem.W.nsIn K mainGlobals "NOUGHT" = some (some (.int 48 t32)))
    (h140 : PySem.W.nsIn K mainGlobals "NINE" = some (some (.int 57 t33)))
    (h141 : PySem.W.nsIn K mainGlobals "TRIANGLE_SIGN" = some (some (.int 116 t34)))
    (h142 : PySem.W.nsIn K mainGlobals "CORNER_SIGN" = some (some (.int 118 t35)))
    (h143 : PySem.W.nsIn K mainGlobals "MOST_BYTES" = some (some (.int 16384 t36)))
    (h144 : PySem.W.nsIn K mainGlobals "OUT_OF_RANGE" = some (some (.int (-1) t37)))
    (h145 : PySem.W.nsIn K mainGlobals "TOO_LONG" = some (some (.int (-2) t38)))
    (h146 : PySem.W.nsIn K mainGlobals "NONE_SUCH" = some (some (.int (-6) t39)))
    (h147 : PySem.W.nsIn K mainGlobals "TURNS_ABOUT_X" = some (some (.ref a40)))
    (h148 : tupIn K a40 [0, 1, 2, 3, 0, 0] = true)
    (h149 : PySem.W.nsIn K mainGlobals "TURNS_ABOUT_Y" = some (some (.ref a41)))
    (h150 : tupIn K a41 [0, 0, 0, 0, 1, 3] = true)
    (h151 : PySem.W.nsIn K mainGlobals "any" = some none)
    (h152 : PySem.W.nsIn K mainGlobals "len" = some none)
    (h153 : PySem.W.nsIn K mainGlobals "ord" = some none)
    (h154 : PySem.W.nsIn K mainGlobals "range" = some none)
    (h155 : PySem.W.nsIn K mainGlobals "str" = some none)
    (h156 : PySem.W.nsIn K mainGlobals "tuple" = some none) :
    ∃ fd : FuncData, (∀ (s : Shared) (us : List Value), us.length = (["k", "t"] : List Str).length → BindsTo s fd ⟨us, []⟩ ((["k", "t"] : List Str).zip us)) ∧ ∀ base : Heap, K.In base → base.Ns mainGlobals mg → FnOk P w K mg base CX0 12 fa fd ["k", "t"] (spTu K) := by
  have e := hfa.symm.trans (PySem.W.mg_of X G h129)
  have ef : fturned = fa := by
    injection e with e1
    injection e1 with e2
    exact e2.symm
  subst ef
  have T : Txt K mg ⟨cF, fF, cM, fM, cR, fR, fAt, fSee, fDig, fSkip, fBeg, fRd, fRn, fRl, fTc, fTt, fRm, fline_of, ftext_of, fturned_about_x, fturned_about_y, fturned_about_z, fturned_corner, fturned_mesh, fAns, fRef, fTel, fMo, fturned⟩ := {
    exF := ⟨h3, h4, h5⟩
    gF := PySem.W.mg_of X G h1
    bF := ⟨_, fun_mk (st := sXI) h6 h7 h8, (fun_mk (st := sXI) h6 h7 h8).binds (ps := ["self", "place"]) fun _ _ _ _ _ _ us hl => match us, hl with | [_, _], _ => rfl⟩
    cM := ⟨h15, h16, h17, h18⟩
    mkM := ⟨h19, h10, h11, h20⟩
    gM := PySem.W.mg_of X G h9
    bM := ⟨_, fun_mk (st := sMI) h12 h13 h14, (fun_mk (st := sMI) h12 h13 h14).binds (ps := ["self", "corners", "triangles"]) fun _ _ _ _ _ _ us hl => match us, hl with | [_, _, _], _ => rfl⟩
    nMc := h21
    nMt := h22
    cR := ⟨h29, h30, h31, h32⟩
    mkR := ⟨h33, h24, h25, h34⟩
    gR := PySem.W.mg_of X G h23
    bR := ⟨_, fun_mk (st := sRI) h26 h27 h28, (fun_mk (st := sRI) h26 h27 h28).binds (ps := ["self", "signs"]) fun _ _ _ _ _ _ us hl => match us, hl with | [_, _], _ => rfl⟩
    nRs := h35
    nRp := h36
    mAt := ⟨h37, h38, h41⟩
    bAt := ⟨_, fun_mk (st := sAt) h39 h40 h41, (fun_mk (st := sAt) h39 h40 h41).binds (ps := ["self"]) fun _ _ _ _ _ _ us hl => match us, hl with | [_], _ => rfl⟩
    mSee := ⟨h42, h43, h46⟩
    bSee := ⟨_, fun_mk (st := sSee) h44 h45 h46, (fun_mk (st := sSee) h44 h45 h46).binds (ps := ["self", "sign"]) fun _ _ _ _ _ _ us hl => match us, hl with | [_, _], _ => rfl⟩
    mDig := ⟨h47, h48, h51⟩
    bDig := ⟨_, fun_mk (st := sDig) h49 h50 h51, (fun_mk (st := sDig) h49 h50 h51).binds (ps := ["self"]) fun _ _ _ _ _ _ us hl => match us, hl with | [_], _ => rfl⟩
    mSkip := ⟨h52, h53, h56⟩
    bSkip := ⟨_, fun_mk (st := sSkip) h54 h55 h56, (fun_mk (st := sSkip) h54 h55 h56).binds (ps := ["self", "sign"]) fun _ _ _ _ _ _ us hl => match us, hl with | [_, _], _ => rfl⟩
    gBeg := PySem.W.mg_of X G h57
    bBeg := ⟨_, fun_mk (st := sBeg) h58 h59 h60, (fun_mk (st := sBeg) h58 h59 h60).binds (ps := ["value", "greatest", "taken"]) fun _ _ _ _ _ _ us hl => match us, hl with | [_, _, _], _ => rfl⟩
    gRd := PySem.W.mg_of X G h61
    bRd := ⟨_, fun_mk (st := sRd) h62 h63 h64, (fun_mk (st := sRd) h62 h63 h64).binds (ps := ["reader", "tens", "greatest", "taken"]) fun _ _ _ _ _ _ us hl => match us, hl with | [_, _, _, _], _ => rfl⟩
    gRn := PySem.W.mg_of X G h65
    bRn := ⟨_, fun_mk (st := sRn) h66 h67 h68, (fun_mk (st := sRn) h66 h67 h68).binds (ps := ["reader", "greatest", "taken"]) fun _ _ _ _ _ _ us hl => match us, hl with | [_, _, _], _ => rfl⟩
    gRl := PySem.W.mg_of X G h69
    bRl := ⟨_, fun_mk (st := sRl) h70 h71 h72, (fun_mk (st := sRl) h70 h71 h72).binds (ps := ["reader", "sign", "greatest", "differ"]) fun _ _ _ _ _ _ us hl => match us, hl with | [_, _, _, _], _ => rfl⟩
    gTc := PySem.W.mg_of X G h73
    bTc := ⟨_, fun_mk (st := sTc) h74 h75 h76, (fun_mk (st := sTc) h74 h75 h76).binds (ps := ["mesh"]) fun _ _ _ _ _ _ us hl => match us, hl with | [_], _ => rfl⟩
    gTt := PySem.W.mg_of X G h77
    bTt := ⟨_, fun_mk (st := sTt) h78 h79 h80, (fun_mk (st := sTt) h78 h79 h80).binds (ps := ["mesh"]) fun _ _ _ _ _ _ us hl => match us, hl with | [_], _ => rfl⟩
    gRm := PySem.W.mg_of X G h81
    bRm := ⟨_, fun_mk (st := sRm) h82 h83 h84, (fun_mk (st := sRm) h82 h83 h84).binds (ps := ["signs"]) fun _ _ _ _ _ _ us hl => match us, hl with | [_], _ => rfl⟩
    gline_of := PySem.W.mg_of X G h85
    bline_of := ⟨_, fun_mk (st := sline_of) h86 h87 h88, (fun_mk (st := sline_of) h86 h87 h88).binds (ps := ["letter", "numbers"]) fun _ _ _ _ _ _ us hl => match us, hl with | [_, _], _ => rfl⟩
    gtext_of := PySem.W.mg_of X G h89
    btext_of := ⟨_, fun_mk (st := stext_of) h90 h91 h92, (fun_mk (st := stext_of) h90 h91 h92).binds (ps := ["mesh"]) fun _ _ _ _ _ _ us hl => match us, hl with | [_], _ => rfl⟩
    gturned_about_x := PySem.W.mg_of X G h93
    bturned_about_x := ⟨_, fun_mk (st := sturned_about_x) h94 h95 h96, (fun_mk (st := sturned_about_x) h94 h95 h96).binds (ps := ["corner"]) fun _ _ _ _ _ _ us hl => match us, hl with | [_], _ => rfl⟩
    gturned_about_y := PySem.W.mg_of X G h97
    bturned_about_y := ⟨_, fun_mk (st := sturned_about_y) h98 h99 h100, (fun_mk (st := sturned_about_y) h98 h99 h100).binds (ps := ["corner"]) fun _ _ _ _ _ _ us hl => match us, hl with | [_], _ => rfl⟩
    gturned_about_z := PySem.W.mg_of X G h101
    bturned_about_z := ⟨_, fun_mk (st := sturned_about_z) h102 h103 h104, (fun_mk (st := sturned_about_z) h102 h103 h104).binds (ps := ["corner"]) fun _ _ _ _ _ _ us hl => match us, hl with | [_], _ => rfl⟩
    gturned_corner := PySem.W.mg_of X G h105
    bturned_corner := ⟨_, fun_mk (st := sturned_corner) h106 h107 h108, (fun_mk (st := sturned_corner) h106 h107 h108).binds (ps := ["corner", "k"]) fun _ _ _ _ _ _ us hl => match us, hl with | [_, _], _ => rfl⟩
    gturned_mesh := PySem.W.mg_of X G h109
    bturned_mesh := ⟨_, fun_mk (st := sturned_mesh) h110 h111 h112, (fun_mk (st := sturned_mesh) h110 h111 h112).binds (ps := ["mesh", "k"]) fun _ _ _ _ _ _ us hl => match us, hl with | [_, _], _ => rfl⟩
    gAns := PySem.W.mg_of X G h113
    bAns := ⟨_, fun_mk (st := sAns) h114 h115 h116, (fun_mk (st := sAns) h114 h115 h116).binds (ps := ["number", "told", "numbers"]) fun _ _ _ _ _ _ us hl => match us, hl with | [_, _, _], _ => rfl⟩
    gRef := PySem.W.mg_of X G h117
    bRef := ⟨_, fun_mk (st := sRef) h118 h119 h120, (fun_mk (st := sRef) h118 h119 h120).binds (ps := ["number"]) fun _ _ _ _ _ _ us hl => match us, hl with | [_], _ => rfl⟩
    gTel := PySem.W.mg_of X G h121
    bTel := ⟨_, fun_mk (st := sTel) h122 h123 h124, (fun_mk (st := sTel) h122 h123 h124).binds (ps := ["told"]) fun _ _ _ _ _ _ us hl => match us, hl with | [_], _ => rfl⟩
    gMo := PySem.W.mg_of X G h125
    bMo := ⟨_, fun_mk (st := sMo) h126 h127 h128, (fun_mk (st := sMo) h126 h127 h128).binds (ps := ["t"]) fun _ _ _ _ _ _ us hl => match us, hl with | [_], _ => rfl⟩
    gturned := PySem.W.mg_of X G h129
    bturned := ⟨_, fun_mk (st := sturned) h130 h131 h132, (fun_mk (st := sturned) h130 h131 h132).binds (ps := ["k", "t"]) fun _ _ _ _ _ _ us hl => match us, hl with | [_, _], _ => rfl⟩
    n64 := ⟨t26, PySem.W.mg_of X G h133⟩
    n128 := ⟨t27, PySem.W.mg_of X G h134⟩
    nG := ⟨t28, PySem.W.mg_of X G h135⟩
    n_GREATEST_TURN := ⟨t29, PySem.W.mg_of X G h136⟩
    nLE := ⟨t30, PySem.W.mg_of X G h137⟩
    nB := ⟨t31, PySem.W.mg_of X G h138⟩
    n48 := ⟨t32, PySem.W.mg_of X G h139⟩
    n57 := ⟨t33, PySem.W.mg_of X G h140⟩
    nT := ⟨t34, PySem.W.mg_of X G h141⟩
    nC := ⟨t35, PySem.W.mg_of X G h142⟩
    nMB := ⟨t36, PySem.W.mg_of X G h143⟩
    n_OUT_OF_RANGE := ⟨t37, PySem.W.mg_of X G h144⟩
    nTL := ⟨t38, PySem.W.mg_of X G h145⟩
    nNS := ⟨t39, PySem.W.mg_of X G h146⟩
    t_TURNS_ABOUT_X := tupG_of (PySem.W.mg_of X G h147) h148
    t_TURNS_ABOUT_Y := tupG_of (PySem.W.mg_of X G h149) h150
    any := PySem.W.ns_none_of X G h151
    len := PySem.W.ns_none_of X G h152
    ord := PySem.W.ns_none_of X G h153
    range := PySem.W.ns_none_of X G h154
    str := PySem.W.ns_none_of X G h155
    tuple := PySem.W.ns_none_of X G h156 }
  exact ⟨PySem.W.fnOf "turned" "turned" (defArgs sturned) (defBody sturned) (defScope sturned) .none kv25 dc25 pm25 an25 cd25 ct25, fun s us hu => match us, hu with | [_, _], _ => .of_eq rfl, fun base _ _ => ok_tu (fun_mk (st := sturned) h130 h131 h132) T⟩
end MP
open PySem PySem.W PyProof.Rows
set_option maxRecDepth 100000 in
set_option maxHeartbeats 0 in
theorem PySem.Challenge.cw_beadbodies_s05_turned_holds : PySem.Challenge.rw_beadbodies_s05_turned.Holds := by
  w_on; k_headS; (case hw => exact ⟨[.int 0, .list []], by decide +kernel, by decide +kernel⟩)
  k_fillS
  refine L2.walk_specK (r := PySem.Challenge.rw_beadbodies_s05_turned) (k := 12) (CX := L2.CX0) (ps := ["k", "t"]) (sp := MP.spTu) (by decide +kernel) rfl rfl ⟨rfl, by decide, by decide⟩ (fun w h Y => PySem.W.kIn_of Y) ?F ?S (fun _ _ _ _ z => z)
  case F =>
    intro w mg fa h Y KX G hmg
    refine' MP.all_mk KX G hmg ?h1 ?h2 ?h3 ?h4 ?h5 ?h6 ?h7 ?h8 ?h9 ?h10 ?h11 ?h12 ?h13 ?h14 ?h15 ?h16 ?h17 ?h18 ?h19 ?h20 ?h21 ?h22 ?h23 ?h24 ?h25 ?h26 ?h27 ?h28 ?h29 ?h30 ?h31 ?h32 ?h33 ?h34 ?h35 ?h36 ?h37 ?h38 ?h39 ?h40 ?h41 ?h42 ?h43 ?h44 ?h45 ?h46 ?h47 ?h48 ?h49 ?h50 ?h51 ?h52 ?h53 ?h54 ?h55 ?h56 ?h57 ?h58 ?h59 ?h60 ?h61 ?h62 ?h63 ?h64 ?h65 ?h66 ?h67 ?h68 ?h69 ?h70 ?h71 ?h72 ?h73 ?h74 ?h75 ?h76 ?h77 ?h78 ?h79 ?h80 ?h81 ?h82 ?h83 ?h84 ?h85 ?h86 ?h87 ?h88 ?h89 ?h90 ?h91 ?h92 ?h93 ?h94 ?h95 ?h96 ?h97 ?h98 ?h99 ?h100 ?h101 ?h102 ?h103 ?h104 ?h105 ?h106 ?h107 ?h108 ?h109 ?h110 ?h111 ?h112 ?h113 ?h114 ?h115 ?h116 ?h117 ?h118 ?h119 ?h120 ?h121 ?h122 ?h123 ?h124 ?h125 ?h126 ?h127 ?h128 ?h129 ?h130 ?h131 ?h132 ?h133 ?h134 ?h135 ?h136 ?h137 ?h138 ?h139 ?h140 ?h141 ?h142 ?h143 ?h144 ?h145 ?h146 ?h147 ?h148 ?h149 ?h150 ?h151 ?h152 ?h153 ?h154 ?h155 ?h156
    (case h1 => k_is); (case h2 => k_is); (case h3 => kernel_rfl!); (case h4 => kernel_rfl!); (case h5 => k_is); (case h6 => k_is)
    (case h7 => k_is); (case h8 => k_is); (case h9 => k_is); (case h10 => k_is); (case h11 => k_is); (case h12 => k_is)
    (case h13 => k_is); (case h14 => k_is); (case h15 => k_is); (case h16 => k_is); (case h17 => k_is); (case h18 => k_is)
    (case h19 => k_is); (case h20 => k_is); (case h21 => k_is); (case h22 => k_is); (case h23 => k_is); (case h24 => k_is)
    (case h25 => k_is); (case h26 => k_is); (case h27 => k_is); (case h28 => k_is); (case h29 => k_is); (case h30 => k_is)
    (case h31 => k_is); (case h32 => k_is); (case h33 => k_is); (case h34 => k_is); (case h35 => k_is); (case h36 => k_is)
    (case h37 => k_is); (case h38 => k_is); (case h39 => k_is); (case h40 => k_is); (case h41 => k_is); (case h42 => k_is)
    (case h43 => k_is); (case h44 => k_is); (case h45 => k_is); (case h46 => k_is); (case h47 => k_is); (case h48 => k_is)
    (case h49 => k_is); (case h50 => k_is); (case h51 => k_is); (case h52 => k_is); (case h53 => k_is); (case h54 => k_is)
    (case h55 => k_is); (case h56 => k_is); (case h57 => k_is); (case h58 => k_is); (case h59 => k_is); (case h60 => k_is)
    (case h61 => k_is); (case h62 => k_is); (case h63 => k_is); (case h64 => k_is); (case h65 => k_is); (case h66 => k_is)
    (case h67 => k_is); (case h68 => k_is); (case h69 => k_is); (case h70 => k_is); (case h71 => k_is); (case h72 => k_is)
    (case h73 => k_is); (case h74 => k_is); (case h75 => k_is); (case h76 => k_is); (case h77 => k_is); (case h78 => k_is)
    (case h79 => k_is); (case h80 => k_is); (case h81 => k_is); (case h82 => k_is); (case h83 => k_is); (case h84 => k_is)
    (case h85 => k_is); (case h86 => k_is); (case h87 => k_is); (case h88 => k_is); (case h89 => k_is); (case h90 => k_is)
    (case h91 => k_is); (case h92 => k_is); (case h93 => k_is); (case h94 => k_is); (case h95 => k_is); (case h96 => k_is)
    (case h97 => k_is); (case h98 => k_is); (case h99 => k_is); (case h100 => k_is); (case h101 => k_is); (case h102 => k_is)
    (case h103 => k_is); (case h104 => k_is); (case h105 => k_is); (case h106 => k_is); (case h107 => k_is); (case h108 => k_is)
    (case h109 => k_is); (case h110 => k_is); (case h111 => k_is); (case h112 => k_is); (case h113 => k_is); (case h114 => k_is)
    (case h115 => k_is); (case h116 => k_is); (case h117 => k_is); (case h118 => k_is); (case h119 => k_is); (case h120 => k_is)
    (case h121 => k_is); (case h122 => k_is); (case h123 => k_is); (case h124 => k_is); (case h125 => k_is); (case h126 => k_is)
    (case h127 => k_is); (case h128 => k_is); (case h129 => k_is); (case h130 => k_is); (case h131 => k_is); (case h132 => k_is)
    (case h133 => k_is); (case h134 => k_is); (case h135 => k_is); (case h136 => k_is); (case h137 => k_is); (case h138 => k_is)
    (case h139 => k_is); (case h140 => k_is); (case h141 => k_is); (case h142 => k_is); (case h143 => k_is); (case h144 => k_is)
    (case h145 => k_is); (case h146 => k_is); (case h147 => k_is); (case h148 => kernel_rfl!); (case h149 => k_is); (case h150 => kernel_rfl!)
    (case h151 => k_is); (case h152 => k_is); (case h153 => k_is); (case h154 => k_is); (case h155 => k_is); (case h156 => k_is)
  case S =>
    intro K H xs a hO hwi hask hx
    cases hx with
    | cons h0 t0 =>
      cases t0 with
      | cons h1 t1 =>
        cases t1
        cases h0 with
        | int =>
          cases h1 with
          | lst hs1 ha1 =>
            have e1 := L2.ints_dw a.2.1 _ ha1
            subst e1
            have q : (Codec.inInt 0 18446744073709551615 a.1 && ((Codec.inLen 0 16500 a.2.1 && a.2.1.all (Codec.inInt 0 255)) && true)) = true := hwi
            have q0 := (Bool.and_eq_true_iff.mp q).1
            have qr0 := (Bool.and_eq_true_iff.mp q).2
            have q1 := (Bool.and_eq_true_iff.mp qr0).1
            have qr1 := (Bool.and_eq_true_iff.mp qr0).2
            exact MP.req_tu (PySem.W.Codec.inInt_iff.mp q0).1 hs1 (Bool.and_eq_true_iff.mp q1).2

end
