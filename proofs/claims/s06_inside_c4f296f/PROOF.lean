import PyProof.Rows.All
import Wide.All
import OpenK.AllK
import Wide.FinOn
import PyProof.EqAt
import PyProof.EqKinds
import PyProof.TupleCall
import KE.BitLaws
import Open.SpecLaws
import KE.OsHead
import KE.OsGo
import PyProof.RaisesMany
import PyProof.RulesTry
import PyProof.ExcInit
import PyProof.InstStoreFacts
import PyProof.ExcArgsOwn
import PyProof.ExcAttrAll.ValueError
import PyProof.ExcBaseAll.ValueError
import PyProof.RulesAs
import PyProof.NsDelKeeps
import PyProof.WalkInts
import PyProof.Rows.CallKwBuiltin
import PyProof.TupleOfSeq
import PyProof.Rows.SortWalk
import PyProof.SeqI3
import PyProof.MaxThree
import PyProof.ListRange
import PySem.Challenge.RW_beadbodies_s06_inside
section
set_option Elab.async false
set_option linter.all false
set_option maxRecDepth 100000
/-! THE HAND LAYER, for ints, bools, texts, own classes, lists, tuples, dicts, comprehensions, walks over dicts, enumerate, zip, reversed, texts, calls, loops. Paste it whole ahead of your own text; what your proof does not reach may be deleted. -/
namespace L2
open PySem PySem.Spec PyProof.Rows

/-- a key: an int or a str -/
abbrev Key := Sum Int Str
def keyIs : Key → Value → Bool
  | .inl k, v => Value.isInt k v
  | .inr x, v => Value.isStrOf x v
def keyH (w : World) : Key → Int
  | .inl k => hashInt k
  | .inr x => hashStr w x
theorem keyIs_shape : ∀ {k : Key} {v : Value}, keyIs k v = true → (∃ i t, k = Sum.inl i ∧ v = Value.int i t) ∨ (∃ x t, k = Sum.inr x ∧ v = Value.str x t)
  | .inl i, v, h => by
    obtain ⟨t, e⟩ := Value.isInt_shape (k := i) (v := v) h
    exact .inl ⟨i, t, rfl, e⟩
  | .inr x, v, h => by
    obtain ⟨t, e⟩ := Value.isStrOf_shape (x := x) (v := v) h
    exact .inr ⟨x, t, rfl, e⟩
theorem keyIs_int (i : Int) (t : Tok) : keyIs (.inl i) (.int i t) = true := by simp [keyIs, Value.isInt]
theorem keyIs_str (x : Str) (t : Tok) : keyIs (.inr x) (.str x t) = true := by simp [keyIs, Value.isStrOf]
theorem key_ll (a b : Int) : decide ((Sum.inl a : Key) = Sum.inl b) = (a == b) := by
  by_cases e : a = b
  · subst e; simp
  · have h : ¬ (Sum.inl a : Key) = Sum.inl b := fun q => e (Sum.inl.inj q)
    rw [decide_eq_false h]
    exact (beq_eq_false_iff_ne.mpr e).symm
theorem key_rr (a b : Str) : decide ((Sum.inr a : Key) = Sum.inr b) = decide (a = b) := by
  by_cases e : a = b
  · subst e; simp
  · have h : ¬ (Sum.inr a : Key) = Sum.inr b := fun q => e (Sum.inr.inj q)
    rw [decide_eq_false h, decide_eq_false e]
theorem key_lr (a : Int) (b : Str) : decide ((Sum.inl a : Key) = Sum.inr b) = false := decide_eq_false (fun q => nomatch q)
theorem key_rl (a : Str) (b : Int) : decide ((Sum.inr a : Key) = Sum.inl b) = false := decide_eq_false (fun q => nomatch q)

def mixKind (prog : Program) (w : World) : PySem.KeyKind prog w Key where
  is := keyIs
  hash := keyH w
  inj := fun v a b ha hb => by
    rcases keyIs_shape ha with ⟨i, t, rfl, rfl⟩ | ⟨x, t, rfl, rfl⟩
    · rcases keyIs_shape hb with ⟨j, u, rfl, e⟩ | ⟨y, u, rfl, e⟩
      · injection e with e1 _; rw [e1]
      · exact nomatch e
    · rcases keyIs_shape hb with ⟨j, u, rfl, e⟩ | ⟨y, u, rfl, e⟩
      · exact nomatch e
      · injection e with e1 _; rw [e1]
  byValue := fun k v h => by
    rcases keyIs_shape h with ⟨i, t, rfl, rfl⟩ | ⟨x, t, rfl, rfl⟩ <;> rfl
  pyHash := fun hv h => by
    rcases keyIs_shape hv with ⟨i, t, rfl, rfl⟩ | ⟨x, t, rfl, rfl⟩
    · exact wpAny_pyHash_int h
    · exact wpAny_pyHash_str h
  eqBool := fun hu hv h => by
    rcases keyIs_shape hu with ⟨i, t, rfl, rfl⟩ | ⟨x, t, rfl, rfl⟩
    · rcases keyIs_shape hv with ⟨j, u, rfl, rfl⟩ | ⟨y, u, rfl, rfl⟩
      · rw [key_ll] at h; exact wpAny_eqBool_int h
      · rw [key_lr] at h; exact SeqAt.EqAt.int_str i t y u _ _ _ _ h
    · rcases keyIs_shape hv with ⟨j, u, rfl, rfl⟩ | ⟨y, u, rfl, rfl⟩
      · rw [key_rl] at h; exact SeqAt.EqAt.str_int x t j u _ _ _ _ h
      · rw [key_rr] at h; exact wpAny_eqBool_str h
  «strs» := fun k x t v h => by
    rcases keyIs_shape h with ⟨i, u, rfl, e⟩ | ⟨y, u, rfl, e⟩
    · exact nomatch e
    · injection e with e1 _
      subst e1
      cases v <;> rfl

theorem mixKind_int (prog : Program) (w : World) (i : Int) (t : Tok) : (mixKind prog w).is (.inl i) (.int i t) = true := keyIs_int i t
theorem mixKind_str (prog : Program) (w : World) (x : Str) (t : Tok) : (mixKind prog w).is (.inr x) (.str x t) = true := keyIs_str x t
end L2

namespace L2
open PySem PySem.Spec PyProof.Rows

/-- a value, without the heap -/
inductive V where
  | non | bl (b : Bool) | int (i : Int) | str (x : Str) | byt (b : Array UInt8) | flt (b : UInt64) | ref (a : Addr) | ty (n : String)
  deriving DecidableEq

def RelV : V → Value → Prop
  | .non, u => u = Value.none
  | .bl b, u => u = Value.bool b
  | .int i, u => ∃ t, u = Value.int i t
  | .str x, u => ∃ t, u = Value.str x t
  | .byt b, u => ∃ t, u = Value.bytes b t
  | .flt b, u => ∃ t, u = Value.float b t
  | .ref a, u => u = Value.ref a
  | .ty n, u => u = Value.type n

abbrev Vals : List V → List Value → Prop := Paired RelV
theorem Vals.length {xs : List V} {us : List Value} (r : Vals xs us) : xs.length = us.length := Paired.length r
theorem Vals.get : ∀ {xs : List V} {us : List Value} {i : Nat} {x : V}, Vals xs us → xs[i]? = some x → ∃ u, us[i]? = some u ∧ RelV x u
  | _, _, _, _, .nil, e => by simp at e
  | _, _, 0, _, .cons r _, e => by simp at e; subst e; exact ⟨_, rfl, r⟩
  | _, _, i + 1, x, .cons _ t, e => by
    obtain ⟨u, h1, h2⟩ := Vals.get (i := i) (x := x) t (by simpa using e)
    exact ⟨u, by simpa using h1, h2⟩
theorem Vals.append : ∀ {xs ys : List V} {us ws : List Value}, Vals xs us → Vals ys ws → Vals (xs ++ ys) (us ++ ws)
  | _, _, _, _, .nil, s => s
  | _, _, _, _, .cons r t, s => .cons r (Vals.append t s)
def RelO : Option V → Option Value → Prop
  | some v, some u => RelV v u
  | none, none => True
  | _, _ => False
def KV {κ : Type} : List (κ × V) → List (κ × Value) → Prop := Paired fun (p : κ × V) (q : κ × Value) => p.1 = q.1 ∧ RelV p.2 q.2

/-- a key of a dict (00_mix): an int or a text -/
def kV : Key → V
  | .inl i => .int i
  | .inr x => .str x

/-- what stands at a tracked address -/
inductive HO where
  /-- a list -/
  | lst (xs : List V)
  /-- a tuple (never changes) -/
  | tup (xs : List V)
  /-- a dict whose keys are ints and texts; one whose keys are tuples of ints and texts (the empty one is both) -/
  | dK (kvs : List (Key × V)) | dT (kvs : List (List Key × V))
  /-- a set of ints: its members, its size -/
  | set (S : Int → Bool) (n : Nat)
  /-- an instance of the class at C, its dict at dx, its attributes -/
  | ins (C dx : Addr) (fs : List (Str × V))
  /-- the dict of the instance at x -/
  | own (x : Addr)
  /-- the dict of an exception -/
  | xd (fs : List (Str × V))
  /-- a bound method, f of x -/
  | met (f x : Addr)
  /-- a range object lo, lo + 1, .. below hi -/
  | rng (lo hi : Int)
  /-- a thing that is known to the object (the script; a dict while a loop walks it): read, never written while it is so -/
  | frz (o : Obj) (u : HO)
  /-- a code object's table -/
  | tbl (ps : Array Value)
  /-- any other thing, by what is true of its one object (a def of one's own: SetO a S n := HO.ext fun h => ..) -/
  | ext (φ : Heap → Prop)

abbrev Hp := Addr → Option HO
def upd (H : Hp) (a : Addr) (o : HO) : Hp := fun b => if b = a then some o else H b
theorem upd_same {H : Hp} {a : Addr} {o : HO} : upd H a o a = some o := by unfold upd; rw [if_pos rfl]
theorem upd_ne {H : Hp} {a b : Addr} {o : HO} (h : b ≠ a) : upd H a o b = H b := by unfold upd; rw [if_neg h]
/-- two objects of different content stand apart -/
theorem ne_of {H : Hp} {a b : Addr} {o u : HO} (h : H a = some o) (h' : H b = some u) (d : o ≠ u) : a ≠ b := by
  intro e; subst e; rw [h] at h'; exact d (Option.some.inj h')
theorem ne_of_none {H : Hp} {a b : Addr} {o : HO} (h : H a = some o) (h' : H b = none) : a ≠ b := by
  intro e; subst e; rw [h] at h'; cases h'

section
variable (P : Program) (w : World)
def ObjOk (H : Hp) (h : Heap) (a : Addr) : HO → Prop
  | .lst xs => xs.length ≤ sizeLine ∧ ∃ (its : List Value) (n : Nat), Vals xs its ∧ h.get? a = some { cls := .type "list", data := .seq its.toArray n }
  | .tup xs => xs.length ≤ sizeLine ∧ ∃ its : List Value, Vals xs its ∧ IsTup h a its.toArray
  | .dK kvs => kvs.length ≤ sizeLine ∧ (a == sysModules) = false ∧ ∃ vs, KV kvs vs ∧ h.DictOf (mixKind P w) a vs
  | .dT kvs => kvs.length ≤ sizeLine ∧ (a == sysModules) = false ∧ ∃ xs : List (List Key × Addr × Value),
      Paired (fun (p : List Key × V) (q : List Key × Addr × Value) => p.1 = q.1 ∧ H q.2.1 = some (.tup (p.1.map kV)) ∧ RelV p.2 q.2.2) kvs xs ∧
      ∃ o es ep, h.get? a = some o ∧ o.ExactDict ∧ o.data = .dict es ep ∧ es.toList = xs.map (entryOfKey (tupleKind (mixKind P w))) ∧ (xs.map (·.1)).Nodup
  | .set S n => h.SetOf (intKind P w) a S n
  | .ins C dx fs => H dx = some (.own a) ∧ fs.length ≤ 1000 ∧ dx ≠ a ∧ h.get? a = some (PySem.W.instObj C dx) ∧
      ∃ mA, h.Ns1 dx mA ∧ (∀ f, RelO (fs.lookup f) (mA f)) ∧ PySem.Within mA (fs.map (·.1))
  | .own _ => ∃ o, h.get? a = some o
  | .xd fs => ∃ mA, h.Ns1 a mA ∧ ∀ f, RelO (fs.lookup f) (mA f)
  | .rng lo hi => ∃ t u v, h.get? a = some { cls := .type "range", data := .fields #[.int lo t, .int hi u, .int 1 v] }
  | .frz o u => h.get? a = some o ∧ ObjOk H h a u
  | .tbl ps => h.get? a = some { cls := .none, data := .fields ps }
  | .met f x => h.get? a = some (PySem.W.methodObj (.ref f) (.ref x))
  | .ext φ => φ h ∧ (∃ o, h.get? a = some o) ∧ ∀ h1 h2 : Heap, φ h1 → (∀ o, h1.get? a = some o → h2.get? a = some o) → φ h2
/-- the abstract heap is held -/
def HOk (H : Hp) (h : Heap) : Prop := ∀ a o, H a = some o → ObjOk P w H h a o
end

section
variable {P : Program} {w : World} {H H' : Hp} {h h' : Heap} {a : Addr} {o : HO}
theorem ObjOk.lt (x : ObjOk P w H h a o) : a < h.objs.size := by
  cases o with
  | lst xs => obtain ⟨_, _, _, _, e⟩ := x; exact Heap.lt_size e
  | tup xs => obtain ⟨_, _, _, p⟩ := x; exact p.lt
  | dK kvs => obtain ⟨_, _, _, _, o, _, _, e, _⟩ := x; exact Heap.lt_size e
  | dT kvs => obtain ⟨_, _, _, _, o, _, _, e, _⟩ := x; exact Heap.lt_size e
  | set S n => obtain ⟨o, _, _, _, e, _⟩ := x; exact Heap.lt_size e
  | ins C dx fs => obtain ⟨_, _, _, e, _⟩ := x; exact Heap.lt_size e
  | own y => obtain ⟨_, e⟩ := x; exact Heap.lt_size e
  | xd fs => obtain ⟨_, ⟨_, _, _, e, _⟩, _⟩ := x; exact Heap.lt_size e
  | rng lo hi => obtain ⟨_, _, _, e⟩ := x; exact Heap.lt_size e
  | frz ob u => obtain ⟨e, _⟩ := x; exact Heap.lt_size e
  | tbl ps => exact Heap.lt_size (show h.get? a = some _ from x)
  | met f y => exact Heap.lt_size (show h.get? a = some _ from x)
  | ext φ => obtain ⟨_, ⟨_, e⟩, _⟩ := x; exact Heap.lt_size e
theorem Paired.mapP {α β : Type} {F G : α → β → Prop} : ∀ {l₁ : List α} {l₂ : List β}, Paired F l₁ l₂ → (∀ a b, F a b → G a b) → Paired G l₁ l₂
  | _, _, .nil, _ => .nil
  | _, _, .cons r t, f => .cons (f _ _ r) (Paired.mapP t f)
/-- what an object's description leans on: its own object, its own dict, the tuples -/
theorem ObjOk.stay (x : ObjOk P w H h a o) (k : ∀ b u, (b = a ∨ H b = some (.own a)) → h.get? b = some u → h'.get? b = some u)
    (ho : ∀ b, H b = some (.own a) → H' b = some (.own a)) (ht : ∀ b xs, H b = some (.tup xs) → H' b = some (.tup xs)) : ObjOk P w H' h' a o := by
  induction o with
  | lst xs => obtain ⟨z, its, n, r, e⟩ := x; exact ⟨z, its, n, r, k _ _ (.inl rfl) e⟩
  | tup xs => obtain ⟨z, its, r, ob, e, c⟩ := x; exact ⟨z, its, r, ob, k _ _ (.inl rfl) e, c⟩
  | dK kvs => obtain ⟨z, y, vs, r, ob, es, ep, e, c⟩ := x; exact ⟨z, y, vs, r, ob, es, ep, k _ _ (.inl rfl) e, c⟩
  | dT kvs =>
    obtain ⟨z, y, xs, r, ob, es, ep, e, c⟩ := x
    exact ⟨z, y, xs, Paired.mapP r fun p q z => ⟨z.1, ht _ _ z.2.1, z.2.2⟩, ob, es, ep, k _ _ (.inl rfl) e, c⟩
  | set S n => obtain ⟨ob, es, ep, t, e, c⟩ := x; exact ⟨ob, es, ep, t, k _ _ (.inl rfl) e, c⟩
  | ins C dx fs =>
    obtain ⟨d, z, ne, e, mA, ⟨od, es, ep, e2, c⟩, r⟩ := x
    exact ⟨ho _ d, z, ne, k _ _ (.inl rfl) e, mA, ⟨od, es, ep, k _ _ (.inr d) e2, c⟩, r⟩
  | own y => obtain ⟨ob, e⟩ := x; exact ⟨ob, k _ _ (.inl rfl) e⟩
  | xd fs => obtain ⟨mA, ⟨od, es, ep, e, c⟩, r⟩ := x; exact ⟨mA, ⟨od, es, ep, k _ _ (.inl rfl) e, c⟩, r⟩
  | rng lo hi => obtain ⟨t, u, v, e⟩ := x; exact ⟨t, u, v, k _ _ (.inl rfl) e⟩
  | frz ob u ih => obtain ⟨e, q⟩ := x; exact ⟨k _ _ (.inl rfl) e, ih q⟩
  | tbl ps =>
    have e : h.get? a = some { cls := .none, data := .fields ps } := x
    show h'.get? a = some { cls := .none, data := .fields ps }
    exact k a _ (.inl rfl) e
  | met f y =>
    have e : h.get? a = some (PySem.W.methodObj (.ref f) (.ref y)) := x
    show h'.get? a = some (PySem.W.methodObj (.ref f) (.ref y))
    exact k a _ (.inl rfl) e
  | ext φ => obtain ⟨p, ⟨o, e⟩, st⟩ := x; exact ⟨st _ _ p fun o q => k _ _ (.inl rfl) q, ⟨o, k _ _ (.inl rfl) e⟩, st⟩
theorem HOk.lt (x : HOk P w H h) (e : H a = some o) : a < h.objs.size := (x a o e).lt
theorem HOk.fresh (x : HOk P w H h) (e : h.objs.size ≤ a) : H a = none := by
  cases q : H a with
  | none => rfl
  | some u => exact absurd (Nat.lt_of_lt_of_le (x.lt q) e) (Nat.lt_irrefl _)
/-- every object of the heap is kept -/
theorem HOk.kept (x : HOk P w H h) (k : ∀ b u, h.get? b = some u → h'.get? b = some u) : HOk P w H h' := fun a o e =>
  (x a o e).stay (fun b u _ q => k b u q) (fun _ q => q) fun _ _ q => q
/-- a new object is laid and tracked -/
theorem HOk.laid (x : HOk P w H h) (k : ∀ b u, h.get? b = some u → h'.get? b = some u) (hp : h.objs.size ≤ a) (new : ObjOk P w (upd H a o) h' a o) : HOk P w (upd H a o) h' := fun b u e => by
  have hn := x.fresh hp
  by_cases hb : b = a
  · subst hb; rw [upd_same] at e; cases e; exact new
  · rw [upd_ne hb] at e
    exact (x b u e).stay (fun c v _ q => k c v q) (fun c q => by rw [upd_ne (ne_of_none q hn)]; exact q) fun c xs q => by rw [upd_ne (ne_of_none q hn)]; exact q
end

/-- what may be read as u: it is u, or a known u -/
def Rd (H : Hp) (a : Addr) (u : HO) : Prop := H a = some u ∨ ∃ o, H a = some (.frz o u)
theorem Rd.ok {P : Program} {w : World} {H : Hp} {h : Heap} {a : Addr} {u : HO} (r : Rd H a u) (x : HOk P w H h) : ObjOk P w H h a u := by
  rcases r with r | ⟨o, r⟩
  · exact x a u r
  · obtain ⟨_, q⟩ := x a _ r
    exact q
/-- what may be written -/
def Mut : Option HO → Prop
  | some (.lst _) => True
  | some (.dK _) => True
  | some (.dT _) => True
  | some (.set _ _) => True
  | some (.ins _ _ _) => True
  | some (.ext _) => True
  | _ => False
section
variable {P : Program} {w : World} {H : Hp} {h h' : Heap} {x e : Addr} {o' : HO}
/-- the object at e is changed: x itself, or the dict of the instance x -/
theorem HOk.write (ok : HOk P w H h) (mu : Mut (H x)) (he : e = x ∨ H e = some (.own x)) (k : ∀ b u, b ≠ e → h.get? b = some u → h'.get? b = some u) (heo : ∃ u, h'.get? e = some u)
    (new : ObjOk P w (upd H x o') h' x o') : HOk P w (upd H x o') h' := fun b u q => by
  have nown : ∀ c y, H c = some (.own y) → c ≠ x := fun c y r z => by subst z; rw [r] at mu; exact mu
  have ntup : ∀ c xs, H c = some (.tup xs) → c ≠ x := fun c xs r z => by subst z; rw [r] at mu; exact mu
  by_cases hb : b = x
  · subst hb; rw [upd_same] at q; cases q; exact new
  · rw [upd_ne hb] at q
    by_cases hbe : b = e
    · have q' : H b = some (.own x) := by
        rcases he with z | z
        · exact absurd (hbe.trans z) hb
        · rw [hbe]; exact z
      rw [q] at q'; cases q'
      obtain ⟨v, hv⟩ := heo
      exact ⟨v, by rw [hbe]; exact hv⟩
    · refine (ok b u q).stay (fun c v hc r => k c v ?_ r) (fun c r => by rw [upd_ne (nown c b r)]; exact r) fun c xs r => by rw [upd_ne (ntup c xs r)]; exact r
      rcases hc with rfl | hc
      · exact hbe
      · rintro rfl
        rcases he with z | z
        · exact nown c b hc z
        · rw [hc] at z; cases z; exact hb rfl
end

/-! ### kept unless tracked; of the frames at fs (the callers') the slots may change (an exception that passes writes there); of the records at ex (iterators) nothing is said -/
structure Un (fs ex : List Addr) (H H' : Hp) (h h' : Heap) : Prop where
  keep : ∀ b o, h.get? b = some o → H b = none → b ∉ fs → b ∉ ex → h'.get? b = some o
  slot : ∀ b o, h.get? b = some o → H b = none → b ∈ fs → b ∉ ex → ∃ sl, h'.get? b = some { o with slots := sl }
  free : ∀ b o, h.get? b = some o → H b = none → b ∉ ex → H' b = none
  there : ∀ b o, h.get? b = some o → b ∉ ex → ∃ o', h'.get? b = some o'
  tups : ∀ b xs, H b = some (.tup xs) → H' b = some (.tup xs)
  frzs : ∀ b o u, H b = some (.frz o u) → H' b = some (.frz o u)
  tbls : ∀ b ps, H b = some (.tbl ps) → ∃ more, H' b = some (.tbl (ps ++ more))
section
variable {fs fs' ex ex' : List Addr} {H H1 H2 : Hp} {h h1 h2 h' : Heap} {a x e : Addr} {o : HO}
theorem Un.any (u : Un fs ex H H1 h h1) {b : Addr} {ob : Obj} (q : h.get? b = some ob) (n : H b = none) (hx : b ∉ ex) : ∃ sl, h1.get? b = some { ob with slots := sl } := by
  by_cases hb : b ∈ fs
  · exact u.slot b ob q n hb hx
  · exact ⟨ob.slots, u.keep b ob q n hb hx⟩
theorem Un.kept (k : ∀ b u, h.get? b = some u → h'.get? b = some u) : Un fs ex H H h h' :=
  ⟨fun b ob q _ _ _ => k b ob q, fun b ob q _ _ _ => ⟨ob.slots, k b ob q⟩, fun _ _ _ n _ => n, fun b ob q _ => ⟨ob, k b ob q⟩, fun _ _ q => q, fun _ _ _ q => q, fun _ ps q => ⟨#[], by rw [q]; simp⟩⟩
theorem Un.refl : Un fs ex H H h h := Un.kept fun _ _ q => q
theorem Un.laid (k : ∀ b u, h.get? b = some u → h'.get? b = some u) (hp : h.objs.size ≤ a) (hn : H a = none) : Un fs ex H (upd H a o) h h' where
  keep := fun b u q _ _ _ => k b u q
  slot := fun b u q _ _ _ => ⟨u.slots, k b u q⟩
  free := fun b u q n _ => by rw [upd_ne (Nat.ne_of_lt (Nat.lt_of_lt_of_le (Heap.lt_size q) hp))]; exact n
  there := fun b u q _ => ⟨u, k b u q⟩
  tups := fun b xs q => by rw [upd_ne (ne_of_none q hn)]; exact q
  frzs := fun b u xs q => by rw [upd_ne (ne_of_none q hn)]; exact q
  tbls := fun b ps q => ⟨#[], by rw [upd_ne (ne_of_none q hn), q]; simp⟩
theorem Un.write (mu : Mut (H x)) (he : e = x ∨ H e = some (.own x)) (k : ∀ b u, b ≠ e → h.get? b = some u → h'.get? b = some u) (heo : ∃ u, h'.get? e = some u) : Un fs ex H (upd H x o) h h' := by
  have hx : ∀ b, H b = none → b ≠ x := fun b n z => by subst z; rw [n] at mu; exact mu
  have hb : ∀ b, H b = none → b ≠ e := fun b n z => by
    subst z
    rcases he with r | r
    · exact hx b n r
    · rw [n] at r; cases r
  have hm : ∀ b u, H b = some u → ¬ Mut (some u) → b ≠ x := fun b u q nm z => by subst z; rw [q] at mu; exact nm mu
  refine ⟨fun b u q n _ _ => k b u (hb b n) q, fun b u q n _ _ => ⟨u.slots, k b u (hb b n) q⟩, fun b u q n _ => by rw [upd_ne (hx b n)]; exact n, fun b u q _ => ?_,
    fun b xs q => by rw [upd_ne (hm b _ q fun z => z)]; exact q, fun b u xs q => by rw [upd_ne (hm b _ q fun z => z)]; exact q, fun b ps q => ⟨#[], by rw [upd_ne (hm b _ q fun z => z), q]; simp⟩⟩
  by_cases hbe : b = e
  · subst hbe; exact heo
  · exact ⟨u, k b u hbe q⟩
end

/-! ### the heap without what is tracked -/
def trk (h : Heap) (H : Hp) : List Addr := (List.range h.objs.size).filter fun a => (H a).isSome
def hidT (h : Heap) (H : Hp) : Heap := PySem.W.hideAll h (trk h H)
theorem hidT_size (h : Heap) (H : Hp) : (hidT h H).objs.size = h.objs.size := PySem.W.hideAll_size _ _
theorem hidT_get {h : Heap} {H : Hp} {b : Addr} {o : Obj} (e : h.get? b = some o) (n : H b = none) : (hidT h H).get? b = some o :=
  PySem.W.hideAll_get _ e fun hm => by
    have q : (H b).isSome = true := (List.mem_filter.mp hm).2
    rw [n] at q; simp at q
theorem of_hidT {h : Heap} {H : Hp} {b : Addr} {o : Obj} (e : (hidT h H).get? b = some o) : h.get? b = some o ∧ H b = none := by
  have e' : h.get? b = some o := PySem.W.of_hideAll (trk h H) e
  refine ⟨e', ?_⟩
  cases q : H b with
  | none => rfl
  | some x =>
    have hm : b ∈ trk h H := List.mem_filter.mpr ⟨List.mem_range.mpr (Heap.lt_size e'), by simp [q]⟩
    have z : (hidT h H).get? b = none := PySem.W.hideAll_none (trk h H) hm
    rw [z] at e; cases e

/-! ### OpenK's ledger, filled with every new object but one -/
end L2

namespace L2
open PySem PySem.Spec PyProof.Rows

/-- the module's facts, over the base: the heap at the law's entry without what is tracked there -/
structure Mod (K : PySem.W.Frag) (mg : Str → Option Value) (base : Heap) : Prop where
  kin : K.In base
  glob : base.Ns mainGlobals mg
  blt : ∃ mb, base.Ns builtinsNs mb ∧ ∀ x : Str, x ≠ "__name__" → mb x = bootBuiltins x
  nolimit : base.NoLimit

/-- the context: a def's body (or a comprehension's block) running. base: fixed through the whole law; s₀, H₀: the entry; outer: the frames whose slots others may change (a def's callers); stack: all frames that run;
   ex: iterators that were made ahead of the entry and are walked here (a comprehension's); fn: the names whose cells were made at the entry (a def: all; a comprehension's block: its own); calm: not within an except suite; pn: pins that every state bears; xe: what is wanted of an exception that leaves the code -/
structure Cx where
  prog : Program
  w : World
  K : PySem.W.Frag
  mg : Str → Option Value
  base : Heap
  A : Around
  N : List Str
  s_0 : Shared
  H_0 : Hp
  env : Env
  outer : List Env
  stack : List Env
  ex : List Addr
  fn : Str → Bool
  calm : Bool
  pn : List (Addr × Obj)
  xe : Value → Shared → Prop
/-- the callers' frames -/
def frs (l : List Env) : List Addr := l.filterMap (·.frame)
abbrev Cx.fs (X : Cx) : List Addr := frs X.outer

def Vis (sc : Scope) (x : Str) : Prop := sc.names.lookup x = some .local ∨ sc.names.lookup x = some .cell ∨ sc.names.lookup x = some .free
def Loc (sc : Scope) (x : Str) : Prop := sc.names.lookup x = some .local ∨ sc.names.lookup x = some .cell
def Look (env : Env) (h : Heap) (m : Str → Option Value) (x : Str) (u : Value) : Prop :=
  (env.kindOf x = some .local ∧ m x = some u) ∨ ((env.kindOf x = some .cell ∨ env.kindOf x = some .free) ∧ ∃ c, env.cells.lookup x = some c ∧ h.IsCell c (some u))

structure Cx.Ok (X : Cx) : Prop where
  mod : Mod X.K X.mg X.base
  kind : X.env.scope.kind = .function
  glob : X.env.globals = mainGlobals
  blt : X.env.builtins = builtinsNs
  above : X.s_0.heap.objs.size ≤ X.env.locals
  inj : ∀ x y c, X.env.cells.lookup x = some c → X.env.cells.lookup y = some c → x = y
  has : ∀ x, (X.env.kindOf x = some .cell ∨ X.env.kindOf x = some .free) → ∃ c, X.env.cells.lookup x = some c
  cab : ∀ x c, X.fn x = true → X.env.cells.lookup x = some c → X.s_0.heap.objs.size ≤ c
  hd : X.calm = true → X.A.handled = none
  frames : X.A.frames = some X.stack
  stk : X.stack = X.outer ∨ (X.stack = X.env :: X.outer ∧ X.env.frame = some X.env.locals)
  exf : ∀ b ∈ X.ex, b ≠ X.env.locals ∧ ∀ x c, X.env.cells.lookup x = some c → c ≠ b
  bs : ∀ b o, X.base.get? b = some o → X.s_0.heap.get? b = some o ∧ X.H_0 b = none
  bsz : X.base.objs.size ≤ X.s_0.heap.objs.size
  noex : ∀ b o, X.base.get? b = some o → b ∉ X.ex
  exfs : ∀ b ∈ X.ex, b ∉ X.fs
  funs : X.s_0.heap.FunFrames X.base X.outer
  frf : ∀ b ∈ X.fs, X.H_0 b = none

structure Inv (X : Cx) (pins : List (Addr × Obj)) (σ : List (Option V)) (H : Hp) (s : Shared) : Prop where
  ok : X.Ok
  os : s.os = X.s_0.os
  bare : AllBare s.gens
  base : Un X.fs X.ex X.H_0 H X.s_0.heap s.heap
  loc : ∃ m, s.heap.Ns X.env.locals m ∧ ∀ (i : Nat) (x : Str) (v : V), X.N[i]? = some x → σ[i]? = some (some v) → Vis X.env.scope x → ∃ u, RelV v u ∧ Look X.env s.heap m x u
  cell : ∀ x c, X.env.cells.lookup x = some c → ∃ v, s.heap.IsCell c v
  free : H X.env.locals = none
  freeC : ∀ x c, X.env.cells.lookup x = some c → H c = none
  pin : ∀ p ∈ X.pn ++ pins, s.heap.get? p.1 = some p.2 ∧ H p.1 = none ∧ p.1 ≠ X.env.locals ∧ p.1 ∉ X.fs ∧ ∀ v, p.2.data ≠ .cell v
  hok : HOk X.prog X.w H s.heap
  len : σ.length = X.N.length

section
variable {X : Cx} {pins : List (Addr × Obj)} {σ : List (Option V)} {H H' : Hp} {s : Shared} {h' : Heap}

theorem Cx.Ok.nofr (ok : X.Ok) {b : Addr} {o : Obj} (e : X.base.get? b = some o) : b ∉ X.fs := fun hb => by
  have := (ok.funs.mem hb).1
  rw [e] at this; cases this
theorem Inv.bs (I : Inv X pins σ H s) : ∀ b o, X.base.get? b = some o → s.heap.get? b = some o ∧ H b = none := fun b o e =>
  ⟨I.base.keep b o (I.ok.bs b o e).1 (I.ok.bs b o e).2 (I.ok.nofr e) (I.ok.noex b o e), I.base.free b o (I.ok.bs b o e).1 (I.ok.bs b o e).2 (I.ok.noex b o e)⟩
theorem Inv.bk (I : Inv X pins σ H s) : ∀ b o, X.base.get? b = some o → s.heap.get? b = some o := fun b o e => (I.bs b o e).1
theorem Inv.mod (I : Inv X pins σ H s) : Mod X.K X.mg X.base := I.ok.mod
theorem Inv.kIn (I : Inv X pins σ H s) : X.K.In s.heap := I.ok.mod.kin.keeps I.bk
theorem Inv.lt (I : Inv X pins σ H s) : X.env.locals < s.heap.objs.size := let ⟨_, hn, _⟩ := I.loc; hn.lt
theorem Inv.sz (I : Inv X pins σ H s) : X.s_0.heap.objs.size ≤ s.heap.objs.size := Nat.le_trans I.ok.above (Nat.le_of_lt I.lt)
theorem Inv.nofs (I : Inv X pins σ H s) {a : Addr} (h : s.heap.objs.size ≤ a) : a ∉ X.fs := fun hb => by
  obtain ⟨_, o, ho, _⟩ := I.ok.funs.mem hb
  exact absurd (Nat.lt_of_lt_of_le (Heap.lt_size ho) (Nat.le_trans I.sz h)) (Nat.lt_irrefl _)
theorem Inv.cne (I : Inv X pins σ H s) : ∀ x c, X.env.cells.lookup x = some c → c ≠ X.env.locals := fun x c e z => by
  obtain ⟨v, o, ho, hd⟩ := I.cell x c e
  obtain ⟨m, ⟨o', es, ep, ho', hd', _⟩, _⟩ := I.loc
  rw [z, ho'] at ho; cases ho; rw [hd'] at hd; cases hd
theorem Inv.funs (I : Inv X pins σ H s) : s.heap.FunFrames X.base X.outer := by
  have all : ∀ (l : List Env), (∀ b ∈ frs l, b ∈ X.fs) → X.s_0.heap.FunFrames X.base l → s.heap.FunFrames X.base l := by
    intro l
    induction l with
    | nil => intro _ _; trivial
    | cons env r ih =>
      intro hs hl
      obtain ⟨hk, ⟨L, o, hf, hn, ho, hd⟩, hr⟩ := hl
      have hL : L ∈ X.fs := hs L (by unfold frs; rw [List.filterMap_cons, hf]; exact List.mem_cons_self)
      obtain ⟨sl, e⟩ := I.base.slot L o ho (I.ok.frf L hL) hL fun z => I.ok.exfs L z hL
      exact ⟨hk, ⟨L, _, hf, hn, e, hd⟩, ih (fun b hb => hs b (by unfold frs; rw [List.filterMap_cons, hf]; exact List.mem_cons_of_mem _ hb)) hr⟩
  exact all X.outer (fun _ hb => hb) I.ok.funs

/-- the frames that run, for a call -/
theorem Inv.stack (I : Inv X pins σ H s) : s.heap.FunFrames X.base X.stack := by
  rcases I.ok.stk with e | ⟨e, hf⟩
  · rw [e]; exact I.funs
  · rw [e]
    obtain ⟨m, hn, _⟩ := I.loc
    refine .cons (by rw [I.ok.kind]; decide) hf hn ?_ I.funs
    exact Heap.get?_none_of_le (Nat.le_trans I.ok.bsz I.ok.above)
theorem Inv.stkSub (I : Inv X pins σ H s) : ∀ b ∈ frs X.stack, b ∈ X.env.locals :: X.fs := fun b hb => by
  rcases I.ok.stk with e | ⟨e, hf⟩
  · rw [e] at hb; exact List.mem_cons_of_mem _ hb
  · rw [e] at hb
    unfold frs at hb
    rw [List.filterMap_cons, hf] at hb
    exact hb
theorem Inv.stkFree (I : Inv X pins σ H s) : ∀ b ∈ frs X.stack, H b = none := fun b hb => by
  rcases List.mem_cons.mp (I.stkSub b hb) with e | hb
  · rw [e]; exact I.free
  · obtain ⟨_, o, ho, _⟩ := I.ok.funs.mem hb
    exact I.base.free b o ho (I.ok.frf b hb) fun z => I.ok.exfs b z hb

/-- THE STEP: the untracked objects but the frame and the records at ch are kept (the callers' frames up to slots), the frame's map is kept, the new abstract heap is held -/
theorem Inv.step {g' : Array GenState} {t' : Nat} {d' : Drawn} {ch : List Addr} (I : Inv X pins σ H s)
    (hch : ∀ b ∈ ch, (b ∈ X.ex ∨ X.s_0.heap.objs.size ≤ b) ∧ b ≠ X.env.locals ∧ (∀ x c, X.env.cells.lookup x = some c → c ≠ b) ∧ ∀ p ∈ X.pn ++ pins, p.1 ≠ b)
    (keep : ∀ b o, b ≠ X.env.locals → b ∉ X.fs → b ∉ ch → s.heap.get? b = some o → H b = none → h'.get? b = some o)
    (slot : ∀ b o, b ≠ X.env.locals → b ∈ X.fs → b ∉ ch → s.heap.get? b = some o → H b = none → ∃ sl, h'.get? b = some { o with slots := sl }) (free : ∀ b o, b ∉ ch → s.heap.get? b = some o → H b = none → H' b = none)
    (there : ∀ b o, b ∉ ch → s.heap.get? b = some o → ∃ o', h'.get? b = some o')
    (tups : ∀ b xs, H b = some (.tup xs) → H' b = some (.tup xs)) (frzs : ∀ b o u, H b = some (.frz o u) → H' b = some (.frz o u)) (tbls : ∀ b ps, H b = some (.tbl ps) → ∃ more, H' b = some (.tbl (ps ++ more)))
    (ns : ∀ m, s.heap.Ns X.env.locals m → h'.Ns X.env.locals m) (hok : HOk X.prog X.w H' h') (hg : AllBare g') :
    Inv X pins σ H' { s with heap := h', gens := g', drawn := d', toks := t' } := by
  have neL : ∀ b o, X.s_0.heap.get? b = some o → b ≠ X.env.locals := fun b o e => Nat.ne_of_lt (Nat.lt_of_lt_of_le (Heap.lt_size e) I.ok.above)
  have neC : ∀ b o, X.s_0.heap.get? b = some o → b ∉ X.ex → b ∉ ch := fun b o e hx hb => by
    rcases (hch b hb).1 with z | z
    · exact hx z
    · exact absurd (Nat.lt_of_lt_of_le (Heap.lt_size e) z) (Nat.lt_irrefl _)
  have cellK : ∀ x c, X.env.cells.lookup x = some c → ∀ v, s.heap.IsCell c v → h'.IsCell c v := fun x c e v ⟨o, ho, hd⟩ => by
    have nch : c ∉ ch := fun z => (hch c z).2.2.1 x c e rfl
    by_cases hc : c ∈ X.fs
    · obtain ⟨sl, q⟩ := slot c o (I.cne x c e) hc nch ho (I.freeC x c e)
      exact ⟨_, q, hd⟩
    · exact ⟨o, keep c o (I.cne x c e) hc nch ho (I.freeC x c e), hd⟩
  refine ⟨I.ok, I.os, hg, ⟨fun b o e n hb hx => ?_, fun b o e n hb hx => ?_, fun b o e n hx => ?_, fun b o e hx => ?_, fun b xs e => tups b xs (I.base.tups b xs e), fun b o xs e => frzs b o xs (I.base.frzs b o xs e), fun b ps e => ?_⟩, ?_, fun x c e => ?_, ?_, fun x c e => ?_, fun p hp => ?_, hok, I.len⟩
  · exact keep b o (neL b o e) hb (neC b o e hx) (I.base.keep b o e n hb hx) (I.base.free b o e n hx)
  · obtain ⟨sl, e1⟩ := I.base.slot b o e n hb hx
    obtain ⟨sl', e2⟩ := slot b _ (neL b o e) hb (neC b o e hx) e1 (I.base.free b o e n hx)
    exact ⟨sl', e2⟩
  · obtain ⟨o', e1⟩ := I.base.there b o e hx
    exact free b o' (neC b o e hx) e1 (I.base.free b o e n hx)
  · obtain ⟨o', e1⟩ := I.base.there b o e hx
    exact there b o' (neC b o e hx) e1
  · obtain ⟨m1, e1⟩ := I.base.tbls b ps e
    obtain ⟨m2, e2⟩ := tbls b _ e1
    exact ⟨m1 ++ m2, by rw [e2, Array.append_assoc]⟩
  · obtain ⟨m, hn, hl⟩ := I.loc
    refine ⟨m, ns m hn, fun i x v e1 e2 e3 => ?_⟩
    obtain ⟨u, r, l⟩ := hl i x v e1 e2 e3
    refine ⟨u, r, ?_⟩
    rcases l with l | ⟨k, c, e, z⟩
    · exact .inl l
    · exact .inr ⟨k, c, e, cellK x c e _ z⟩
  · obtain ⟨v, z⟩ := I.cell x c e
    exact ⟨v, cellK x c e v z⟩
  · obtain ⟨m, ⟨o, _, _, ho, _⟩, _⟩ := I.loc
    exact free _ o (fun z => (hch _ z).2.1 rfl) ho I.free
  · obtain ⟨v, o, ho, hd⟩ := I.cell x c e
    exact free c o (fun z => (hch c z).2.2.1 x c e rfl) ho (I.freeC x c e)
  · obtain ⟨e, n, ne, nf, d⟩ := I.pin p hp
    have nch : p.1 ∉ ch := fun z => (hch p.1 z).2.2.2 p hp rfl
    exact ⟨keep p.1 p.2 ne nf nch e n, free p.1 p.2 nch e n, ne, nf, d⟩
/-- .. where the frame's own object is kept too -/
theorem Inv.un {t' : Nat} (I : Inv X pins σ H s) (u : Un X.fs [] H H' s.heap h') (hok : HOk X.prog X.w H' h') : Inv X pins σ H' { s with heap := h', toks := t' } := by
  obtain ⟨m, ⟨o, es, ep, ho, r⟩, _⟩ := id I.loc
  obtain ⟨sl, hL⟩ := u.any ho I.free (by simp)
  exact I.step (g' := s.gens) (d' := s.drawn) (ch := []) (fun _ z => nomatch z) (fun b o _ hb _ e n => u.keep b o e n hb (by simp)) (fun b o _ hb _ e n => u.slot b o e n hb (by simp)) (fun b o _ e n => u.free b o e n (by simp)) (fun b o _ e => u.there b o e (by simp)) u.tups u.frzs u.tbls (fun m' hm => by
    obtain ⟨o', es', ep', ho', r'⟩ := hm
    rw [ho] at ho'; cases ho'
    exact ⟨_, es', ep', hL, r'⟩) hok I.bare
/-- behind a call (or a comprehension's block): the slots of this frame may have changed too, the records at ch may have turned -/
theorem Inv.call {g' : Array GenState} {t' : Nat} {d' : Drawn} {ch : List Addr} (I : Inv X pins σ H s) (u : Un (frs X.stack) ch H H' s.heap h') (hok : HOk X.prog X.w H' h') (hg : AllBare g')
    (hch : ∀ b ∈ ch, (b ∈ X.ex ∨ X.s_0.heap.objs.size ≤ b) ∧ b ≠ X.env.locals ∧ (∀ x c, X.env.cells.lookup x = some c → c ≠ b) ∧ ∀ p ∈ X.pn ++ pins, p.1 ≠ b) :
    Inv X pins σ H' { s with heap := h', gens := g', drawn := d', toks := t' } := by
  obtain ⟨m, ⟨o, es, ep, ho, r⟩, _⟩ := id I.loc
  obtain ⟨sl, hL⟩ := u.any ho I.free fun z => (hch _ z).2.1 rfl
  exact I.step (ch := ch) hch (fun b o hL hb hc e n => u.keep b o e n (fun z => (List.mem_cons.mp (I.stkSub b z)).elim hL hb) hc) (fun b o _ _ hc e n => u.any e n hc) (fun b o hc e n => u.free b o e n hc) (fun b o hc e => u.there b o e hc) u.tups u.frzs u.tbls (fun m' hm => by
    obtain ⟨o', es', ep', ho', r'⟩ := hm
    rw [ho] at ho'; cases ho'
    exact ⟨_, es', ep', hL, r'⟩) hok hg
/-- an untracked record of ours (an iterator) has turned -/
theorem Inv.turned {t' : Nat} {it : Addr} (I : Inv X pins σ H s) (k : ∀ b o, b ≠ it → s.heap.get? b = some o → h'.get? b = some o) (hn : H it = none) (hL : it ≠ X.env.locals)
    (h1 : it ∈ X.ex ∨ X.s_0.heap.objs.size ≤ it) (h2 : ∀ x c, X.env.cells.lookup x = some c → c ≠ it) (h3 : ∀ p ∈ X.pn ++ pins, p.1 ≠ it) : Inv X pins σ H { s with heap := h', toks := t' } := by
  have nit : ∀ b u, H b = some u → b ≠ it := fun b u e z => by rw [z, hn] at e; cases e
  refine I.step (g' := s.gens) (d' := s.drawn) (ch := [it]) (fun b hb => ?_) (fun b o _ _ hc e _ => k b o (fun z => hc (by simp [z])) e) (fun b o _ _ hc e _ => ⟨o.slots, k b o (fun z => hc (by simp [z])) e⟩) (fun _ _ _ _ n => n)
    (fun b o hc e => ⟨o, k b o (fun z => hc (by simp [z])) e⟩) (fun _ _ e => e) (fun _ _ _ e => e) (fun b ps e => ⟨#[], by rw [e]; simp⟩) (fun m hm => ?_) (fun b u e => ?_) I.bare
  · have e : b = it := by simpa using hb
    subst e
    exact ⟨h1, hL, h2, h3⟩
  · obtain ⟨o, es, ep, ho, r⟩ := hm
    exact ⟨o, es, ep, k _ o (Ne.symm hL) ho, r⟩
  · refine (I.hok b u e).stay (fun c v hc q => k c v ?_ q) (fun _ q => q) fun _ _ q => q
    rcases hc with z | z
    · rw [z]; exact nit b u e
    · exact nit c _ z
theorem Inv.tok (I : Inv X pins σ H s) (t : Nat) : Inv X pins σ H { s with toks := t } := I.un (h' := s.heap) (t' := t) Un.refl I.hok
/-- all objects kept -/
theorem Inv.kept {t' : Nat} (I : Inv X pins σ H s) (k : ∀ b u, s.heap.get? b = some u → h'.get? b = some u) : Inv X pins σ H { s with heap := h', toks := t' } := I.un (Un.kept k) (I.hok.kept k)
/-- a new object laid and tracked -/
theorem Inv.laid {a : Addr} {o : HO} {t' : Nat} (I : Inv X pins σ H s) (k : ∀ b u, s.heap.get? b = some u → h'.get? b = some u) (hp : s.heap.objs.size ≤ a) (new : ObjOk X.prog X.w (upd H a o) h' a o) :
    Inv X pins σ (upd H a o) { s with heap := h', toks := t' } := I.un (Un.laid k hp (I.hok.fresh hp)) (I.hok.laid k hp new)
/-- an object written -/
theorem Inv.write {x e : Addr} {o : HO} {t' : Nat} (I : Inv X pins σ H s) (mu : Mut (H x)) (he : e = x ∨ H e = some (.own x)) (k : ∀ b u, b ≠ e → s.heap.get? b = some u → h'.get? b = some u) (heo : ∃ u, h'.get? e = some u)
    (new : ObjOk X.prog X.w (upd H x o) h' x o) : Inv X pins σ (upd H x o) { s with heap := h', toks := t' } := I.un (Un.write mu he k heo) (I.hok.write mu he k heo new)
/-- forgetting slots, pins -/
theorem Inv.weak {σ' : List (Option V)} (I : Inv X pins σ H s) (hl : σ'.length = σ.length) (w : ∀ (i : Nat) v, σ'[i]? = some (some v) → σ[i]? = some (some v)) : Inv X pins σ' H s :=
  ⟨I.ok, I.os, I.bare, I.base, let ⟨m, hn, hl'⟩ := I.loc; ⟨m, hn, fun i x v e1 e2 e3 => hl' i x v e1 (w i v e2) e3⟩, I.cell, I.free, I.freeC, I.pin, I.hok, hl.trans I.len⟩
theorem Inv.pins_of {pins' : List (Addr × Obj)} (I : Inv X pins σ H s) (h : ∀ p ∈ pins', s.heap.get? p.1 = some p.2 ∧ H p.1 = none ∧ p.1 ≠ X.env.locals ∧ p.1 ∉ X.fs ∧ ∀ v, p.2.data ≠ .cell v) : Inv X pins' σ H s :=
  ⟨I.ok, I.os, I.bare, I.base, I.loc, I.cell, I.free, I.freeC, fun p hp => (List.mem_append.mp hp).elim (fun z => I.pin p (List.mem_append_left _ z)) (h p), I.hok, I.len⟩

theorem nodup_ix {N : List Str} (hN : N.Nodup) {i j : Nat} {x : Str} (a : N[i]? = some x) (b : N[j]? = some x) : i = j := by
  obtain ⟨h1, e1⟩ := List.getElem?_eq_some_iff.mp a
  obtain ⟨h2, e2⟩ := List.getElem?_eq_some_iff.mp b
  exact (List.getElem_inj hN).mp (e1.trans e2.symm)

/-- a name is stored; what changed -/
theorem store_ok2 {M : Model} {A : Around} {E : Value → Shared → Prop} {i : Nat} {x : Str} {v : V} {u : Value} {Q : Unit → Shared → Prop} (I : Inv X pins σ H s) (hN : X.N.Nodup) (hi : X.N[i]? = some x) (hx : Loc X.env.scope x) (r : RelV v u)
    (h : ∀ s', Inv X pins (σ.set i (some v)) H s' → (∃ a, Heap.SameBut a s.heap s'.heap ∧ (a = X.env.locals ∨ X.env.cells.lookup x = some a)) → Q () s') (hf : X.fn x = true ∨ X.env.scope.names.lookup x = some .local := by first | exact .inl rfl | exact .inr rfl | assumption) : wpAny M A (storeName X.env x u) Q E s := by
  obtain ⟨m, hn, hl⟩ := id I.loc
  have hcls : (X.env.scope.kind == .class || (X.env.scope.kind == .module && X.env.locals != X.env.globals)) = false := by rw [I.ok.kind]; rfl
  have hiσ : i < σ.length := by rw [I.len]; exact (List.getElem?_eq_some_iff.mp hi).1
  have cne := I.cne
  have tracked : ∀ {a : Addr} {h' : Heap}, (∃ o, s.heap.get? a = some o ∧ H a = none) → Heap.SameBut a s.heap h' → HOk X.prog X.w H h' := fun {a h'} ha hs b ob e => by
    obtain ⟨_, _, hfree⟩ := ha
    refine (I.hok b ob e).stay (fun c w' hc q => (hs.2 c ?_).trans q) (fun _ q => q) fun _ _ q => q
    rintro rfl
    rcases hc with rfl | hc
    · rw [hfree] at e; cases e
    · rw [hfree] at hc; cases hc
  rcases hx with hk | hk
  · refine wpAny_storeName_local hk hn (fun h' hn' hs => ?_) hcls
    obtain ⟨oL, _, _, hoL, _⟩ := id hn
    refine h _ ⟨I.ok, I.os, I.bare, ⟨fun b o e n hb hx => ?_, fun b o e n hb hx => ?_, I.base.free, fun b o e hx => ?_, I.base.tups, I.base.frzs, I.base.tbls⟩, ⟨_, hn', fun j y v' e1 e2 e3 => ?_⟩, fun y c e => ?_, I.free, I.freeC, fun p hp => ?_, tracked ⟨oL, hoL, I.free⟩ hs, by simpa using I.len⟩ ⟨_, hs, .inl rfl⟩
    · exact (hs.2 b (Nat.ne_of_lt (Nat.lt_of_lt_of_le (Heap.lt_size e) I.ok.above))).trans (I.base.keep b o e n hb hx)
    · obtain ⟨sl, e1⟩ := I.base.slot b o e n hb hx
      exact ⟨sl, (hs.2 b (Nat.ne_of_lt (Nat.lt_of_lt_of_le (Heap.lt_size e) I.ok.above))).trans e1⟩
    · obtain ⟨o', e1⟩ := I.base.there b o e hx
      exact ⟨o', (hs.2 b (Nat.ne_of_lt (Nat.lt_of_lt_of_le (Heap.lt_size e) I.ok.above))).trans e1⟩
    · by_cases hj : j = i
      · subst hj
        rw [hi] at e1; cases e1
        rw [List.getElem?_set_self hiσ] at e2
        cases e2
        exact ⟨u, r, .inl ⟨hk, by simp⟩⟩
      · rw [List.getElem?_set_ne (Ne.symm hj)] at e2
        obtain ⟨u', r', q⟩ := hl j y v' e1 e2 e3
        refine ⟨u', r', ?_⟩
        rcases q with ⟨k, e⟩ | ⟨k, c, e, z⟩
        · refine .inl ⟨k, ?_⟩
          have : y ≠ x := fun e => hj (nodup_ix hN e1 (e ▸ hi))
          simp [this, e]
        · exact .inr ⟨k, c, e, z.sameBut hs (cne y c e)⟩
    · obtain ⟨w', z⟩ := I.cell y c e
      exact ⟨w', z.sameBut hs (cne y c e)⟩
    · obtain ⟨e, n, ne, nf, d⟩ := I.pin p hp
      exact ⟨(hs.2 p.1 ne).trans e, n, ne, nf, d⟩
  · have hfn : X.fn x = true := by
      rcases hf with z | z
      · exact z
      · rw [z] at hk; cases hk
    obtain ⟨c, hc⟩ := I.ok.has x (.inl hk)
    obtain ⟨w', z⟩ := I.cell x c hc
    refine wpAny_storeName_cell I.ok.kind hk hc z (fun h' hc' hs => ?_)
    obtain ⟨oc, hoc, hocd⟩ := id z
    refine h { s with heap := h' } ⟨I.ok, I.os, I.bare, ⟨fun b o e n hb hx => ?_, fun b o e n hb hx => ?_, I.base.free, fun b o e hx => ?_, I.base.tups, I.base.frzs, I.base.tbls⟩, ⟨m, hn.sameBut hs (Ne.symm (cne x c hc)), fun j y v' e1 e2 e3 => ?_⟩, fun y c' e => ?_, I.free, I.freeC, fun p hp => ?_, tracked ⟨oc, hoc, I.freeC x c hc⟩ hs, by simpa using I.len⟩ ⟨c, hs, .inr hc⟩
    · exact (hs.2 b (Nat.ne_of_lt (Nat.lt_of_lt_of_le (Heap.lt_size e) (I.ok.cab x c hfn hc)))).trans (I.base.keep b o e n hb hx)
    · obtain ⟨sl, e1⟩ := I.base.slot b o e n hb hx
      exact ⟨sl, (hs.2 b (Nat.ne_of_lt (Nat.lt_of_lt_of_le (Heap.lt_size e) (I.ok.cab x c hfn hc)))).trans e1⟩
    · obtain ⟨o', e1⟩ := I.base.there b o e hx
      exact ⟨o', (hs.2 b (Nat.ne_of_lt (Nat.lt_of_lt_of_le (Heap.lt_size e) (I.ok.cab x c hfn hc)))).trans e1⟩
    · by_cases hj : j = i
      · subst hj
        rw [hi] at e1; cases e1
        rw [List.getElem?_set_self hiσ] at e2
        cases e2
        exact ⟨u, r, .inr ⟨.inl hk, c, hc, hc'⟩⟩
      · rw [List.getElem?_set_ne (Ne.symm hj)] at e2
        obtain ⟨u', r', q⟩ := hl j y v' e1 e2 e3
        refine ⟨u', r', ?_⟩
        rcases q with q | ⟨k, c', e, z'⟩
        · exact .inl q
        · refine .inr ⟨k, c', e, z'.sameBut hs ?_⟩
          rintro rfl
          exact hj (nodup_ix hN e1 (I.ok.inj _ _ _ e hc ▸ hi))
    · by_cases hcc : c' = c
      · subst hcc; exact ⟨_, hc'⟩
      · obtain ⟨w2, z2⟩ := I.cell y c' e
        exact ⟨w2, z2.sameBut hs hcc⟩
    · obtain ⟨e, n, ne, nf, d⟩ := I.pin p hp
      refine ⟨(hs.2 p.1 ?_).trans e, n, ne, nf, d⟩
      intro q
      rw [q, hoc] at e
      have q' : oc = p.2 := Option.some.inj e
      exact d w' (by rw [← q']; exact hocd)
theorem store_ok {M : Model} {A : Around} {E : Value → Shared → Prop} {i : Nat} {x : Str} {v : V} {u : Value} {Q : Unit → Shared → Prop} (I : Inv X pins σ H s) (hN : X.N.Nodup) (hi : X.N[i]? = some x) (hx : Loc X.env.scope x) (r : RelV v u)
    (h : ∀ s', Inv X pins (σ.set i (some v)) H s' → Q () s') (hf : X.fn x = true ∨ X.env.scope.names.lookup x = some .local := by first | exact .inl rfl | exact .inr rfl | assumption) : wpAny M A (storeName X.env x u) Q E s :=
  store_ok2 I hN hi hx r (fun s' I' _ => h s' I') hf
/-- behind a call or a block, the state as it is -/
theorem Inv.call' {s' : Shared} {ch : List Addr} (I : Inv X pins σ H s) (ho : s'.os = s.os) (u : Un (frs X.stack) ch H H' s.heap s'.heap) (hok : HOk X.prog X.w H' s'.heap) (hg : AllBare s'.gens)
    (hch : ∀ b ∈ ch, (b ∈ X.ex ∨ X.s_0.heap.objs.size ≤ b) ∧ b ≠ X.env.locals ∧ (∀ x c, X.env.cells.lookup x = some c → c ≠ b) ∧ ∀ p ∈ X.pn ++ pins, p.1 ≠ b) : Inv X pins σ H' s' := by
  obtain ⟨h', g', d', t', o'⟩ := s'
  have e : o' = s.os := ho
  subst e
  exact I.call (g' := g') (t' := t') (d' := d') u hok hg hch
end

/-! ### the judgements -/
/-- an exception: its class, its own dict's address (where it has one), the abstract heap behind it -/
abbrev XK := Value → Option Addr → Hp → Prop
abbrev St := List (Option V)
abbrev VK := V → Hp → Prop
/-- an expression's reading; a test's; an argument list's -/
abbrev TE := St → Hp → VK → Prop
abbrev TT := St → Hp → (Bool → Hp → Prop) → Prop
abbrev TA := St → Hp → (List V → Hp → Prop) → Prop
/-- what is wanted behind a statement -/
structure Ends where
  nx : St → Hp → Prop
  rt : VK
  bk : St → Hp → Prop := fun _ _ => False
  ct : St → Hp → Prop := fun _ _ => False
abbrev TS := Ends → St → Hp → Prop

def EP (X : Cx) (pins : List (Addr × Obj)) (σ : St) (Q : VK) (u : Value) (s' : Shared) : Prop := ∃ v H', Inv X pins σ H' s' ∧ RelV v u ∧ Q v H'
def TP (X : Cx) (pins : List (Addr × Obj)) (σ : St) (Q : Bool → Hp → Prop) (b : Bool) (s' : Shared) : Prop := ∃ H', Inv X pins σ H' s' ∧ Q b H'
def AP (X : Cx) (pins : List (Addr × Obj)) (σ : St) (Q : List V → Hp → Prop) (us : List Value) (s' : Shared) : Prop := ∃ vs H', Inv X pins σ H' s' ∧ Vals vs us ∧ Q vs H'
def SP (X : Cx) (pins : List (Addr × Obj)) (D : Ends) (f : Flow) (s' : Shared) : Prop :=
  match f with
  | .next => ∃ σ' H', Inv X pins σ' H' s' ∧ D.nx σ' H'
  | .brk => ∃ σ' H', Inv X pins σ' H' s' ∧ D.bk σ' H'
  | .cont => ∃ σ' H', Inv X pins σ' H' s' ∧ D.ct σ' H'
  | .ret u => ∃ v σ' H', Inv X pins σ' H' s' ∧ RelV v u ∧ D.rt v H'

def PE (X : Cx) (e : Expr) (t : TE) : Prop :=
  ∀ (pins : List (Addr × Obj)) (s : Shared) (σ : St) (H : Hp) (Q : VK), Inv X pins σ H s → t σ H Q → wpAny (model X.prog X.w) X.A (eval e X.env) (EP X pins σ Q) X.xe s
def PT (X : Cx) (e : Expr) (t : TT) : Prop :=
  ∀ (pins : List (Addr × Obj)) (s : Shared) (σ : St) (H : Hp) (Q : Bool → Hp → Prop), Inv X pins σ H s → t σ H Q → wpAny (model X.prog X.w) X.A (isTrue e X.env (eval e X.env)) (TP X pins σ Q) X.xe s
/-- a test whatever its 'whole' is (and, or) -/
def PW (X : Cx) (e : Expr) (t : TT) : Prop :=
  ∀ (whole : Sem Value) (pins : List (Addr × Obj)) (s : Shared) (σ : St) (H : Hp) (Q : Bool → Hp → Prop), Inv X pins σ H s → t σ H Q → wpAny (model X.prog X.w) X.A (isTrue e X.env whole) (TP X pins σ Q) X.xe s
theorem PW.pt {X : Cx} {e : Expr} {t : TT} (h : PW X e t) : PT X e t := h _
/-- an argument list (no star), from the left -/
def PA (X : Cx) (es : List Expr) (t : TA) : Prop :=
  ∀ (pos : Pos) (pins : List (Addr × Obj)) (s : Shared) (σ : St) (H : Hp) (Q : List V → Hp → Prop), Inv X pins σ H s → t σ H Q → wpAny (model X.prog X.w) X.A (spliced (backTo pos (starEach es X.env))) (AP X pins σ Q) X.xe s
def PS (X : Cx) (st : Stmt) (t : TS) : Prop :=
  ∀ (pins : List (Addr × Obj)) (s : Shared) (σ : St) (H : Hp) (D : Ends), Inv X pins σ H s → t D σ H → wpAny (model X.prog X.w) X.A (exec st X.env) (SP X pins D) X.xe s
def PSs (X : Cx) (st : List Stmt) (t : TS) : Prop :=
  ∀ (pins : List (Addr × Obj)) (s : Shared) (σ : St) (H : Hp) (D : Ends), Inv X pins σ H s → t D σ H → wpAny (model X.prog X.w) X.A (execs st X.env) (SP X pins D) X.xe s
/-- weaken the end -/
theorem thn {α : Type} {t : Sem α} {Q Q' : α → Shared → Prop} {M : Model} {A : Around} {E : Value → Shared → Prop} {s : Shared} (h : wpAny M A t Q E s) (hQ : ∀ a s, Q a s → Q' a s) : wpAny M A t Q' E s := wpAny_mono h hQ fun _ _ x => x
end L2

namespace L2
open PySem PySem.Spec PyProof.Rows
section
variable {X : Cx}

/-- two expressions in a row -/
theorem bin {a b : Expr} {ta tb : TE} (ha : PE X a ta) (hb : PE X b tb) {pins : List (Addr × Obj)} {s : Shared} {σ : St} {H : Hp} {R : V → V → Hp → Prop} (I : Inv X pins σ H s) (h : ta σ H fun x H1 => tb σ H1 fun y H2 => R x y H2)
    {α : Type} {Q : α → Shared → Prop} {f : Value → Value → Sem α}
    (hf : ∀ v u s2 x y H2, Inv X pins σ H2 s2 → RelV x v → RelV y u → R x y H2 → wpAny (model X.prog X.w) X.A (f v u) Q X.xe s2) :
    wpAny (model X.prog X.w) X.A (eval a X.env) (fun v s₁ => wpAny (model X.prog X.w) X.A (eval b X.env) (fun u s₂ => wpAny (model X.prog X.w) X.A (f v u) Q X.xe s₂) X.xe s₁) X.xe s := by
  refine thn (ha pins s σ H _ I h) fun v s1 ⟨x, H1, I1, r1, q1⟩ => ?_
  refine thn (hb pins s1 σ H1 _ I1 q1) fun u s2 ⟨y, H2, I2, r2, q2⟩ => ?_
  exact hf v u s2 x y H2 I2 r1 r2 q2

/-! ### names and constants -/
def tVar (i : Nat) : TE := fun σ H Q => ∃ v, σ[i]? = some (some v) ∧ Q v H
def tC (v : V) : TE := fun _ H Q => Q v H
theorem pe_var {i : Nat} {x : Str} {pos : Pos} (hN : X.N[i]? = some x) (hv : Vis X.env.scope x) (hd : (x == ("__debug__" : Str)) = false := by decide) (hcd : (x == ("__classdict__" : Str)) = false := by decide) : PE X (.Name x pos) (tVar i) := by
  intro pins s σ H Q I h
  obtain ⟨v, e, h⟩ := h
  obtain ⟨m, hn, hl⟩ := I.loc
  obtain ⟨u, r, l⟩ := hl i x v hN e hv
  have fin : EP X pins σ Q u s := ⟨v, H, I, r, h⟩
  rcases l with ⟨hk, hm⟩ | ⟨hk, c, hc, hcell⟩
  · exact wpAny_Name (wpAny_loadName_local I.ok.kind hk hn hm fin) hd
  · rcases hk with hk | hk
    · exact wpAny_Name (wpAny_loadName_cell I.ok.kind hk hc hcell fin) hd
    · exact wpAny_Name (wpAny_loadName_free I.ok.kind hk hc hcell fin hcd) hd
theorem pe_int {i j pos} : PE X (.Constant (.int i) j pos) (tC (.int i)) := fun _ _ _ H _ I h => wpAny_Constant_int ⟨.int i, H, I.tok _, ⟨_, rfl⟩, h⟩
theorem pe_bl {b j pos} : PE X (.Constant (.bool b) j pos) (tC (.bl b)) := fun _ _ _ H _ I h => Constant_bool ⟨.bl b, H, I, rfl, h⟩
theorem pe_non {j pos} : PE X (.Constant .none j pos) (tC .non) := fun _ _ _ H _ I h => Constant_none ⟨.non, H, I, rfl, h⟩
/-- a global name of the def -/
def Gl (X : Cx) (x : Str) : Prop := X.env.kindOf x = some .globalImplicit
theorem ld_glob {E : Value → Shared → Prop} {pins : List (Addr × Obj)} {s : Shared} {σ : St} {H : Hp} {x : Str} {u : Value} {pos : Pos} {Q : Value → Shared → Prop} (I : Inv X pins σ H s) (hg : Gl X x) (hm : X.mg x = some u) (h : Q u s)
    (hd : (x == ("__debug__" : Str)) = false := by decide) : wpAny (model X.prog X.w) X.A (eval (.Name x pos) X.env) Q E s :=
  Calls.Name_function_global I.ok.kind hg (Calls.loadGlobal_global (by rw [I.ok.glob]; exact I.mod.glob.keeps I.bk) hm h) hd
theorem ld_blt {E : Value → Shared → Prop} {pins : List (Addr × Obj)} {s : Shared} {σ : St} {H : Hp} {x : Str} {u : Value} {pos : Pos} {Q : Value → Shared → Prop} (I : Inv X pins σ H s) (hg : Gl X x) (hm : X.mg x = none) (hv : bootBuiltins x = some u) (h : Q u s)
    (hn : x ≠ "__name__" := by decide) (hd : (x == ("__debug__" : Str)) = false := by decide) : wpAny (model X.prog X.w) X.A (eval (.Name x pos) X.env) Q E s := by
  obtain ⟨mb, h1, h2⟩ := I.mod.blt
  exact Calls.Name_function_global I.ok.kind hg (Calls.loadGlobal_builtin (by rw [I.ok.glob]; exact I.mod.glob.keeps I.bk) hm (by rw [I.ok.blt]; exact h1.keeps I.bk) ((h2 x hn).trans hv) h) hd
/-- a module's constant, a class, a function, as a value -/
theorem pe_glob {x : Str} {v : V} {u : Value} {pos : Pos} (hg : Gl X x) (hm : X.mg x = some u) (r : RelV v u) (hd : (x == ("__debug__" : Str)) = false := by decide) : PE X (.Name x pos) (tC v) :=
  fun _ _ _ H _ I h => ld_glob I hg hm ⟨v, H, I, r, h⟩ hd
/-! ### arithmetic -/
/-- two ints -/
def t2I (ta tb : TE) (k : Int → Int → Hp → Prop) : St → Hp → Prop := fun σ H => ta σ H fun x H1 => tb σ H1 fun y H2 => ∃ i j, x = .int i ∧ y = .int j ∧ k i j H2
variable {a b : Expr} {ta tb : TE} {pos : Pos}
/-! ### comparisons -/
def PC (X : Cx) (op : CmpOp) (a b : Expr) (t : TE) : Prop :=
  ∀ (pins : List (Addr × Obj)) (s : Shared) (σ : St) (H : Hp) (Q : VK), Inv X pins σ H s → t σ H Q →
    wpAny (model X.prog X.w) X.A (eval a X.env) (fun v s₁ => wpAny (model X.prog X.w) X.A (eval b X.env) (fun u s₂ => wpAny (model X.prog X.w) X.A (compareOp op v u) (EP X pins σ Q) X.xe s₂) X.xe s₁) X.xe s
theorem nobehind (b : Expr) {op : CmpOp} (h : op ≠ .In) (h2 : op ≠ .NotIn) : behindInMarks op b = false := by
  have e1 : (op == CmpOp.In) = false := by cases op <;> first | rfl | exact absurd rfl h
  have e2 : (op == CmpOp.NotIn) = false := by cases op <;> first | rfl | exact absurd rfl h2
  cases b <;> simp [behindInMarks, e1, e2]
def tCmp (p : Int → Int → Bool) (ta tb : TE) : TE := fun σ H Q => t2I ta tb (fun i j H2 => Q (.bl (p i j)) H2) σ H
abbrev tEqI : TE → TE → TE := tCmp fun i j => decide (i = j)
/-- a comparison of two ints, by its rule -/
theorem pc_int {op : CmpOp} {p : Int → Int → Bool} (ha : PE X a ta) (hb : PE X b tb)
    (rule : ∀ (i j : Int) (t u : Tok) (Q : Value → Shared → Prop) (s : Shared), Q (.bool (p i j)) s → wpAny (model X.prog X.w) X.A (compareOp op (.int i t) (.int j u)) Q X.xe s) : PC X op a b (tCmp p ta tb) := by
  intro pins s σ H Q I h
  refine bin ha hb I h fun v u s2 x y H2 I2 rx ry q => ?_
  obtain ⟨i, j, rfl, rfl, q⟩ := q
  obtain ⟨t, rfl⟩ := rx
  obtain ⟨t', rfl⟩ := ry
  exact rule i j t t' _ s2 ⟨.bl _, H2, I2, rfl, q⟩
theorem pc_eqI (ha : PE X a ta) (hb : PE X b tb) : PC X .Eq a b (tEqI ta tb) := pc_int ha hb fun _ _ _ _ _ _ h => eq_int (by rw [Bool.beq_eq_decide_eq]; exact h)
/-- is None -/
def tIsN (ta : TE) : TE := fun σ H Q => ta σ H fun x H1 => Q (.bl (decide (x = .non))) H1
def tNotN (ta : TE) : TE := fun σ H Q => ta σ H fun x H1 => Q (.bl (!decide (x = .non))) H1
theorem RelV.none_iff {x : V} {v : Value} (r : RelV x v) : (v == Value.none) = decide (x = .non) := by
  cases x with
  | non => cases r; rfl
  | bl _ => cases r; rfl
  | int _ => obtain ⟨t, rfl⟩ := r; rfl
  | str _ => obtain ⟨t, rfl⟩ := r; rfl
  | byt _ => obtain ⟨t, rfl⟩ := r; rfl
  | flt _ => obtain ⟨t, rfl⟩ := r; rfl
  | ref _ => cases r; rfl
  | ty _ => cases r; rfl
theorem pc_isN {j pos'} (ha : PE X a ta) : PC X .Is a (.Constant .none j pos') (tIsN ta) := by
  intro pins s σ H Q I h
  refine thn (ha pins s σ H _ I h) fun v s1 ⟨x, H1, I1, r1, q1⟩ => ?_
  exact Constant_none (is_none_gen ⟨.bl _, H1, I1, by rw [r1.none_iff]; rfl, q1⟩)
theorem pc_notN {j pos'} (ha : PE X a ta) : PC X .IsNot a (.Constant .none j pos') (tNotN ta) := by
  intro pins s σ H Q I h
  refine thn (ha pins s σ H _ I h) fun v s1 ⟨x, H1, I1, r1, q1⟩ => ?_
  exact Constant_none (isnot_none_gen ⟨.bl _, H1, I1, by rw [r1.none_iff]; rfl, q1⟩)
/-- a comparison as a value, as a test -/
def tB (t : TE) : TT := fun σ H Q => t σ H fun x H1 => ∃ c, x = .bl c ∧ Q c H1
theorem pe_cmp {op : CmpOp} {t : TE} (h : PC X op a b t) (h1 : behindInMarks op b = false := by first | exact nobehind _ (by decide) (by decide) | rfl) : PE X (.Compare a [op] [b] pos) t := fun pins s σ H Q I hw => wpAny_Compare1 (h pins s σ H Q I hw) h1
theorem pt_cmp {op : CmpOp} {t : TE} (h : PC X op a b t) (h1 : behindInMarks op b = false := by first | exact nobehind _ (by decide) (by decide) | rfl) : PT X (.Compare a [op] [b] pos) (tB t) := by
  intro pins s σ H Q I hw
  refine wpAny_isTrue_Compare1 (thn (h pins s σ H _ I hw) fun v s1 h1 => thn h1 fun u s2 h2 => thn h2 fun c s3 ⟨x, H1, I1, r1, q1⟩ => ?_) h1
  obtain ⟨d, rfl, q⟩ := q1
  cases r1
  exact wpAny_truthy_bool ⟨H1, I1, q⟩
/-- an expression whose value is a bool, as a test -/
theorem pt_val {e : Expr} {t : TE} (h : PE X e t) (he : ∀ whole, isTrue e X.env whole = (do let v ← whole; standAt e.pos; holding [v] (truthy v)) := by intro _; rfl) : PT X e (tB t) := by
  intro pins s σ H Q I hw
  refine isTrue_plain (thn (h pins s σ H _ I hw) fun v s1 ⟨x, H1, I1, r1, q1⟩ => ?_) (he _)
  obtain ⟨d, rfl, q⟩ := q1
  cases r1
  exact wpAny_truthy_bool ⟨H1, I1, q⟩

/-! ### and, or, not -/
variable {tA tB' : TT} {rest : List Expr}
def tAnd (t u : TT) : TT := fun σ H Q => t σ H fun c H1 => if c = true then u σ H1 Q else Q false H1
def tOr (t u : TT) : TT := fun σ H Q => t σ H fun c H1 => if c = true then Q true H1 else u σ H1 Q
def tNot (t : TT) : TT := fun σ H Q => t σ H fun c H1 => Q (!c) H1
theorem pw_and1 (ha : PT X a tA) : PW X (.BoolOp .And [a] pos) tA := by
  intro wh pins s σ H Q I h
  refine isTrue_and (thn (ha pins s σ H Q I h) fun c s1 e => ?_)
  cases c with
  | true => exact isTrue_and_nil e
  | false => exact e
theorem pw_or1 (ha : PT X a tA) : PW X (.BoolOp .Or [a] pos) tA := by
  intro wh pins s σ H Q I h
  refine isTrue_or (thn (ha pins s σ H Q I h) fun c s1 e => ?_)
  cases c with
  | false => exact isTrue_or_nil e
  | true => exact e
theorem pw_and (ha : PT X a tA) (hb : PW X (.BoolOp .And (b :: rest) pos) tB') : PW X (.BoolOp .And (a :: b :: rest) pos) (tAnd tA tB') := by
  intro wh pins s σ H Q I h
  refine isTrue_and (thn (ha pins s σ H _ I h) fun c s1 ⟨H1, I1, q1⟩ => ?_)
  cases c with
  | true => exact hb wh pins s1 σ H1 Q I1 q1
  | false => exact ⟨H1, I1, q1⟩
theorem pw_or (ha : PT X a tA) (hb : PW X (.BoolOp .Or (b :: rest) pos) tB') : PW X (.BoolOp .Or (a :: b :: rest) pos) (tOr tA tB') := by
  intro wh pins s σ H Q I h
  refine isTrue_or (thn (ha pins s σ H _ I h) fun c s1 ⟨H1, I1, q1⟩ => ?_)
  cases c with
  | true => exact ⟨H1, I1, q1⟩
  | false => exact hb wh pins s1 σ H1 Q I1 q1
theorem pt_not (ha : PT X a tA) : PT X (.UnaryOp .Not a pos) (tNot tA) := by
  intro pins s σ H Q I h
  exact isTrue_not (ha pins s σ H (fun c H1 => Q (!c) H1) I h)
/-- .. as values (bools) -/
def tAndV (ta tb : TE) : TE := fun σ H Q => ta σ H fun x H1 => ∃ c, x = .bl c ∧ if c = true then tb σ H1 Q else Q (.bl false) H1
def tNotV (ta : TE) : TE := fun σ H Q => ta σ H fun x H1 => ∃ c, x = .bl c ∧ Q (.bl (!c)) H1
theorem pe_one {op} {t : TE} (h : PE X a t) : PE X (.BoolOp op [a] pos) t := fun pins s σ H Q I hw => BoolOp_one (h pins s σ H Q I hw)
theorem pe_and (ha : PE X a ta) (hb : PE X (.BoolOp .And (b :: rest) pos) tb) : PE X (.BoolOp .And (a :: b :: rest) pos) (tAndV ta tb) := by
  intro pins s σ H Q I h
  refine BoolOp_and (thn (ha pins s σ H _ I h) fun v s1 ⟨x, H1, I1, r1, q1⟩ => ?_)
  obtain ⟨c, rfl, q1⟩ := q1
  cases r1
  refine wpAny_truthy_bool ?_
  cases c with
  | true => exact hb pins s1 σ H1 Q I1 q1
  | false => exact ⟨.bl false, H1, I1, rfl, q1⟩
theorem pe_not (ha : PE X a ta) : PE X (.UnaryOp .Not a pos) (tNotV ta) := by
  intro pins s σ H Q I h
  refine UnaryOp_ (thn (ha pins s σ H _ I h) fun v s1 ⟨x, H1, I1, r1, q1⟩ => ?_)
  obtain ⟨c, rfl, q1⟩ := q1
  cases r1
  exact not_of (wpAny_truthy_bool ⟨.bl (!c), H1, I1, rfl, q1⟩)
/-- a if t else b -/
def tIf (t : TT) (ta tb : TE) : TE := fun σ H Q => t σ H fun c H1 => if c = true then ta σ H1 Q else tb σ H1 Q
theorem pe_ifExp {c : Expr} (hc : PT X c tA) (ha : PE X a ta) (hb : PE X b tb) : PE X (.IfExp c a b pos) (tIf tA ta tb) := by
  intro pins s σ H Q I h
  refine wpAny_IfExp (thn (hc pins s σ H _ I h) fun d s1 ⟨H1, I1, q1⟩ => ?_)
  cases d with
  | true => exact ha pins s1 σ H1 Q I1 q1
  | false => exact hb pins s1 σ H1 Q I1 q1
end
end L2

namespace L2
open PySem PySem.Spec PyProof.Rows

/-! ### a list, a tuple that is read: tracked, frozen, or an object of the module -/
def SqL (K : PySem.W.Frag) (H : Hp) (a : Addr) (xs : List V) : Prop :=
  Rd H a (.lst xs) ∨
    ∃ (o : Obj) (its : Array Value) (n : Nat), K.lookup a = some o ∧ o.cls = .type "list" ∧ o.dict = none ∧ o.data = .seq its n ∧ its.size ≤ sizeLine ∧ Vals xs its.toList
def SqT (K : PySem.W.Frag) (H : Hp) (a : Addr) (xs : List V) : Prop :=
  Rd H a (.tup xs) ∨
    ∃ (o : Obj) (its : Array Value) (n : Nat), K.lookup a = some o ∧ o.cls = .type "tuple" ∧ o.data = .seq its n ∧ its.size ≤ sizeLine ∧ Vals xs its.toList
def absV : Value → Option V
  | .none => some .non
  | .bool b => some (.bl b)
  | .int i _ => some (.int i)
  | .str x _ => some (.str x)
  | .bytes b _ => some (.byt b)
  | .float b _ => some (.flt b)
  | .ref a => some (.ref a)
  | .type n => some (.ty n)
  | _ => none
theorem RelV.abs {x : V} {u : Value} (r : RelV x u) : absV u = some x := by
  cases x with
  | non => cases r; rfl
  | bl _ => cases r; rfl
  | int _ => obtain ⟨t, rfl⟩ := r; rfl
  | str _ => obtain ⟨t, rfl⟩ := r; rfl
  | byt _ => obtain ⟨t, rfl⟩ := r; rfl
  | flt _ => obtain ⟨t, rfl⟩ := r; rfl
  | ref _ => cases r; rfl
  | ty _ => cases r; rfl
theorem RelV.inj {x y : V} {u : Value} (r : RelV x u) (q : RelV y u) : x = y := Option.some.inj (r.abs.symm.trans q.abs)
theorem Vals.inj : ∀ {xs ys : List V} {us : List Value}, Vals xs us → Vals ys us → xs = ys
  | _, _, _, .nil, .nil => rfl
  | _, _, _, .cons r t, .cons r' t' => by rw [r.inj r', Vals.inj t t']
section
variable {X : Cx} {pins : List (Addr × Obj)} {σ : St} {H : Hp} {s : Shared} {a : Addr} {xs ys : List V}
theorem SqL.of {K : PySem.W.Frag} (h : H a = some (.lst xs)) : SqL K H a xs := .inl (.inl h)
theorem SqT.of {K : PySem.W.Frag} (h : H a = some (.tup xs)) : SqT K H a xs := .inl (.inl h)
theorem Inv.list (I : Inv X pins σ H s) (h : SqL X.K H a xs) : ∃ its : List Value, Vals xs its ∧ PlainL s.heap a its.toArray ∧ xs.length ≤ sizeLine := by
  rcases h with h | ⟨o, its, n, hk, hc, hd, hs, hz, r⟩
  · obtain ⟨z, its, n, r, e⟩ := h.ok I.hok
    exact ⟨its, r, ⟨_, n, e, rfl, rfl, rfl⟩, z⟩
  · refine ⟨its.toList, r, ⟨o, n, I.kIn a o hk, hc, hd, by simpa using hs⟩, ?_⟩
    have e := r.length
    simp only [Array.length_toList] at e
    omega
theorem Inv.tuple (I : Inv X pins σ H s) (h : SqT X.K H a xs) : ∃ its : List Value, Vals xs its ∧ IsTup s.heap a its.toArray ∧ xs.length ≤ sizeLine := by
  rcases h with h | ⟨o, its, n, hk, hc, hs, hz, r⟩
  · obtain ⟨z, its, r, p⟩ := h.ok I.hok
    exact ⟨its, r, p, z⟩
  · refine ⟨its.toList, r, ⟨o, I.kIn a o hk, hc, n, by simpa using hs⟩, ?_⟩
    have e := r.length
    simp only [Array.length_toList] at e
    omega
theorem Inv.list_inj (I : Inv X pins σ H s) (h : SqL X.K H a xs) (h' : SqL X.K H a ys) : xs = ys := by
  obtain ⟨its, r, ⟨o, n, e, _, _, d⟩, _⟩ := I.list h
  obtain ⟨its', r', ⟨o', n', e', _, _, d'⟩, _⟩ := I.list h'
  rw [e] at e'; cases e'
  rw [d] at d'
  injection d' with d1 _
  have : its = its' := by simpa using congrArg Array.toList d1
  subst this
  exact r.inj r'
theorem Inv.tuple_inj (I : Inv X pins σ H s) (h : SqT X.K H a xs) (h' : SqT X.K H a ys) : xs = ys := by
  obtain ⟨its, r, ⟨o, e, _, n, d⟩, _⟩ := I.tuple h
  obtain ⟨its', r', ⟨o', e', _, n', d'⟩, _⟩ := I.tuple h'
  rw [e] at e'; cases e'
  rw [d] at d'
  injection d' with d1 _
  have : its = its' := by simpa using congrArg Array.toList d1
  subst this
  exact r.inj r'
end

/-! ### another wish about exceptions -/
abbrev Cx.wish (X : Cx) (E : Value → Shared → Prop) : Cx := { X with xe := E }
/-- no exception leaves -/
abbrev Cx.nox (X : Cx) : Cx := X.wish fun _ _ => False
theorem Cx.Ok.wish {X : Cx} (ok : X.Ok) (E : Value → Shared → Prop) : (X.wish E).Ok :=
  ⟨ok.mod, ok.kind, ok.glob, ok.blt, ok.above, ok.inj, ok.has, ok.cab, ok.hd, ok.frames, ok.stk, ok.exf, ok.bs, ok.bsz, ok.noex, ok.exfs, ok.funs, ok.frf⟩
theorem Cx.Ok.unwish {X : Cx} {E : Value → Shared → Prop} (ok : (X.wish E).Ok) : X.Ok :=
  ⟨ok.mod, ok.kind, ok.glob, ok.blt, ok.above, ok.inj, ok.has, ok.cab, ok.hd, ok.frames, ok.stk, ok.exf, ok.bs, ok.bsz, ok.noex, ok.exfs, ok.funs, ok.frf⟩
section
variable {X : Cx} {pins : List (Addr × Obj)} {σ : St} {H : Hp} {s : Shared} {E : Value → Shared → Prop}
theorem Inv.wish (I : Inv X pins σ H s) (E : Value → Shared → Prop) : Inv (X.wish E) pins σ H s := ⟨I.ok.wish E, I.os, I.bare, I.base, I.loc, I.cell, I.free, I.freeC, I.pin, I.hok, I.len⟩
theorem Inv.unwish (I : Inv (X.wish E) pins σ H s) : Inv X pins σ H s := ⟨I.ok.unwish, I.os, I.bare, I.base, I.loc, I.cell, I.free, I.freeC, I.pin, I.hok, I.len⟩
theorem SP.unwish {D : Ends} {f : Flow} {s' : Shared} (h : SP (X.wish E) pins D f s') : SP X pins D f s' := by
  cases f with
  | next => obtain ⟨σ', H', I, q⟩ := h; exact ⟨σ', H', I.unwish, q⟩
  | brk => obtain ⟨σ', H', I, q⟩ := h; exact ⟨σ', H', I.unwish, q⟩
  | cont => obtain ⟨σ', H', I, q⟩ := h; exact ⟨σ', H', I.unwish, q⟩
  | ret u => obtain ⟨v, σ', H', I, r, q⟩ := h; exact ⟨v, σ', H', I.unwish, r, q⟩
theorem PSs.nox {st : List Stmt} {t : TS} (h : PSs X.nox st t) : PSs X st t := fun pins s σ H D I hw =>
  wpAny_mono (h pins s σ H D (I.wish _) hw) (fun _ _ q => q.unwish) fun _ _ z => False.elim z
end

/-! ### blocks and small statements -/
section
variable {X : Cx} {st : Stmt} {rest : List Stmt} {t u : TS} {e : Expr} {te : TE} {pos : Pos}
def tNext : TS := fun D σ H => D.nx σ H
def tSeq (t u : TS) : TS := fun D σ H => t { D with nx := u D } σ H
theorem pss_nil : PSs X [] tNext := fun _ _ σ H _ I h => wpAny_execs_nil ⟨σ, H, I, h⟩
theorem pss_cons (h1 : PS X st t) (h2 : PSs X rest u) : PSs X (st :: rest) (tSeq t u) := by
  intro pins s σ H D I h
  refine wpAny_execs_cons (thn (h1 pins s σ H { D with nx := u D } I h) fun f s1 q => ?_)
  cases f with
  | next =>
    obtain ⟨σ', H', I', q⟩ := q
    exact h2 pins s1 σ' H' D I' q
  | ret v => exact q
  | brk => exact q
  | cont => exact q
theorem pss_one (h1 : PS X st t) : PSs X [st] t := by
  intro pins s σ H D I h
  refine wpAny_execs_cons (thn (h1 pins s σ H D I h) fun f s1 q => ?_)
  cases f with
  | next => exact wpAny_execs_nil q
  | ret v => exact q
  | brk => exact q
  | cont => exact q
/-- in a def's body nothing is shown -/
theorem Inv.quiet {pins : List (Addr × Obj)} {σ : St} {H : Hp} {s : Shared} (I : Inv X pins σ H s) : interactive X.env = false := by simp [interactive, I.ok.kind]
/-- an expression whose value is dropped -/
def tDrop (te : TE) : TS := fun D σ H => te σ H fun _ H1 => D.nx σ H1
theorem ps_expr (he : PE X e te) (hs : swapsWith e none pos.line X.env = pure false := by rfl) : PS X (.Expr e pos) (tDrop te) := by
  intro pins s σ H D I h
  exact wpAny_Expr_any (thn (he pins s σ H _ I h) fun v s1 ⟨x, H1, I1, r1, q1⟩ => ⟨σ, H1, I1, q1⟩) I.quiet hs
def tRet (te : TE) : TS := fun D σ H => te σ H D.rt
theorem ps_ret (he : PE X e te) : PS X (.Return (some e) pos) (tRet te) := by
  intro pins s σ H D I h
  exact wpAny_Return_some (thn (he pins s σ H _ I h) fun v s1 ⟨x, H1, I1, r1, q1⟩ => ⟨x, σ, H1, I1, r1, q1⟩)
def tIfS (c : TT) (t u : TS) : TS := fun D σ H => c σ H fun b H1 => if b = true then t D σ H1 else u D σ H1
theorem ps_if {c : Expr} {a b : List Stmt} {tc : TT} (hc : PT X c tc) (ha : PSs X a t) (hb : PSs X b u) : PS X (.If c a b pos) (tIfS tc t u) := by
  intro pins s σ H D I h
  refine wpAny_If (thn (hc pins s σ H _ I h) fun d s1 ⟨H1, I1, q1⟩ => ?_)
  cases d with
  | true => exact ha pins s1 σ H1 D I1 q1
  | false => exact hb pins s1 σ H1 D I1 q1
end

/-! ### targets -/
abbrev TG := V → St → Hp → (St → Hp → Prop) → Prop
def PG (X : Cx) (target : Expr) (t : TG) : Prop :=
  ∀ (pins : List (Addr × Obj)) (s : Shared) (σ : St) (H : Hp) (v : V) (u : Value) (Q : St → Hp → Prop), Inv X pins σ H s → RelV v u → t v σ H Q →
    wpAny (model X.prog X.w) X.A (assign target X.env u) (fun _ s' => ∃ σ' H', Inv X pins σ' H' s' ∧ Q σ' H') X.xe s
section
variable {X : Cx} {pos : Pos}
def gName (i : Nat) : TG := fun v σ H Q => Q (σ.set i (some v)) H
theorem pg_name {i : Nat} {x : Str} (hN : X.N.Nodup) (hi : X.N[i]? = some x) (hx : Loc X.env.scope x) (hf : X.fn x = true ∨ X.env.scope.names.lookup x = some .local := by first | exact .inl rfl | exact .inr rfl | assumption) : PG X (.Name x pos) (gName i) := by
  intro pins s σ H v u Q I r h
  exact wpAny_assign_Name (store_ok I hN hi hx r (fun s' I' => ⟨_, H, I', h⟩) hf)
/-- target = value -/
def tAsg (te : TE) (g : TG) : TS := fun D σ H => te σ H fun x H1 => g x σ H1 D.nx
/-- name = value -/
theorem ps_set {i : Nat} {x : Str} {e : Expr} {te : TE} {pos' : Pos} (hN : X.N.Nodup) (hi : X.N[i]? = some x) (hx : Loc X.env.scope x) (he : PE X e te) (hs : swapsWith e (some (.Name x pos')) pos.line X.env = pure false := by rfl) (hf : X.fn x = true ∨ X.env.scope.names.lookup x = some .local := by first | exact .inl rfl | exact .inr rfl | assumption) :
    PS X (.Assign [.Name x pos'] e pos) (tAsg te (gName i)) := by
  intro pins s σ H D I h
  refine wpAny_Assign_Name (thn (he pins s σ H _ I h) fun v s1 ⟨y, H1, I1, r1, q1⟩ => ?_) hs
  exact store_ok I1 hN hi hx r1 (fun s2 I2 => ⟨_, H1, I2, q1⟩) hf
end

/-! ### while -/
section
variable {X : Cx} {pos : Pos}
/-- the invariant W with its measure -/
def tWhile (c : TT) (tb : TS) : TS := fun D σ H => ∃ W : Nat → St → Hp → Prop, (∃ m, W m σ H) ∧ ∀ m σ H, W m σ H →
  c σ H fun b H1 => if b = true then ∃ N : St → Hp → Prop, (∀ σ' H', N σ' H' → ∃ m', m' < m ∧ W m' σ' H') ∧ tb { D with nx := N, ct := N, bk := D.nx } σ H1 else D.nx σ H1
theorem ps_while {c : Expr} {body : List Stmt} {tc : TT} {tb : TS} (hp : PassesOwn (model X.prog X.w) X.A X.env X.xe) (hc : PT X c tc) (hb : PSs X body tb) : PS X (.While c body [] pos) (tWhile tc tb) := by
  intro pins s σ H D I h
  obtain ⟨W, ⟨m0, w0⟩, turn⟩ := h
  refine wpAny_While (codeAny_whileLoop (fun n s' => ∃ σ' H', Inv X pins σ' H' s' ∧ W n σ' H') ?_ m0 ⟨σ, H, I, w0⟩)
  rintro n s1 ⟨σ1, H1, I1, w1⟩
  refine wpAny_passesOwn hp (thn (hc pins s1 σ1 H1 _ I1 (turn n σ1 H1 w1)) fun b s2 ⟨H2, I2, q2⟩ => ?_)
  cases b with
  | true =>
    obtain ⟨N, hN, q2⟩ := q2
    rw [if_pos rfl]
    refine wpAny_passesOwn hp (thn (hb pins s2 σ1 H2 _ I2 q2) fun f s3 q3 => ?_)
    cases f with
    | next =>
      obtain ⟨σ3, H3, I3, n3⟩ := q3
      obtain ⟨m', hm, w3⟩ := hN σ3 H3 n3
      exact ⟨m', hm, σ3, H3, I3, w3⟩
    | cont =>
      obtain ⟨σ3, H3, I3, n3⟩ := q3
      obtain ⟨m', hm, w3⟩ := hN σ3 H3 n3
      exact ⟨m', hm, σ3, H3, I3, w3⟩
    | brk => exact q3
    | ret v => exact q3
  | false =>
    rw [if_neg Bool.false_ne_true]
    exact wpAny_execs_nil ⟨σ1, H2, I2, q2⟩
end

/-! ### what a loop or a comprehension walks -/
/-- at turn i: it yields x (the heap may grow), or it stops -/
structure It where
  go : Nat → Hp → Prop
  yld : Nat → Hp → V → Hp → Prop
  stop : Nat → Hp → Prop
/-- the iterator's own objects may turn: they are not the frame's, not pinned, younger than the entry (or a comprehension's own) -/
def FpOk (X : Cx) (pins : List (Addr × Obj)) (H : Hp) (b : Addr) : Prop :=
  H b = none ∧ b ≠ X.env.locals ∧ b ∉ X.fs ∧ (b ∈ X.ex ∨ X.s_0.heap.objs.size ≤ b) ∧ (∀ x c, X.env.cells.lookup x = some c → c ≠ b) ∧ ∀ p ∈ X.pn ++ pins, p.1 ≠ b
theorem Inv.fpOk {X : Cx} {pins : List (Addr × Obj)} {σ : St} {H H' : Hp} {s : Shared} {b : Addr} (I : Inv X pins σ H s) (hb : s.heap.objs.size ≤ b) (hn : H' b = none) : FpOk X pins H' b := by
  refine ⟨hn, Nat.ne_of_gt (Nat.lt_of_lt_of_le I.lt hb), I.nofs hb, .inr (Nat.le_trans I.sz hb), fun x c e z => ?_, fun p hp z => ?_⟩
  · obtain ⟨v, q⟩ := I.cell x c e
    exact absurd (Nat.lt_of_lt_of_le q.lt (by rw [z]; exact hb)) (Nat.lt_irrefl _)
  · exact absurd (Nat.lt_of_lt_of_le (Heap.lt_size (I.pin p hp).1) (by rw [z]; exact hb)) (Nat.lt_irrefl _)
structure Turn (P : Program) (w : World) (K : PySem.W.Frag) (tg : Expr) (J : It) (fp : List Addr) (it : Addr) (tn : Nat → Heap → Prop) : Prop where
  mem : it ∈ fp
  obj : ∀ i h, tn i h → ∀ b ∈ fp, ∃ o, h.get? b = some o ∧ ∀ v, o.data ≠ .cell v
  keep : ∀ i h h', tn i h → (∀ b ∈ fp, ∀ o, h.get? b = some o → h'.get? b = some o) → tn i h'
  item : ∀ (X : Cx), X.prog = P → X.w = w → X.K = K → X.calm = true → ∀ (i : Nat) (pins : List (Addr × Obj)) (s : Shared) (σ : St) (H : Hp) (E : Value → Shared → Prop), Inv X pins σ H s → (∀ b ∈ fp, FpOk X pins H b) → tn i s.heap → J.go i H →
    wpAny (model P w) X.A (pyNext (.ref it)) (fun r s1 => ∃ u, r = some u ∧
      wpAny (model P w) X.A (letOwnedTupleGo tg (.ref it) u) (fun _ s2 => ∃ x H', Inv X pins σ H' s2 ∧ RelV x u ∧ J.yld i H x H' ∧ tn (i + 1) s2.heap ∧ ∀ b ∈ fp, H' b = none) E s1) E s
  done : ∀ (X : Cx), X.prog = P → X.w = w → X.K = K → X.calm = true → ∀ (i : Nat) (pins : List (Addr × Obj)) (s : Shared) (σ : St) (H : Hp) (E : Value → Shared → Prop), Inv X pins σ H s → (∀ b ∈ fp, FpOk X pins H b) → tn i s.heap → J.stop i H →
    wpAny (model P w) X.A (pyNext (.ref it)) (fun r s1 => r = none ∧ Inv X pins σ H s1) E s
  self : ∀ (A : Around) (i : Nat) (s : Shared) (Q : Value → Shared → Prop) (E : Value → Shared → Prop), tn i s.heap → Q (.ref it) s → wpAny (model P w) A (pyIter (.ref it)) Q E s
abbrev TI := St → Hp → (It → Hp → Prop) → Prop
/-- an iterator has come -/
def PIE (X : Cx) (pins : List (Addr × Obj)) (σ : St) (tg : Expr) (R : It → Hp → Prop) (itv : Value) (s2 : Shared) : Prop :=
  ∃ (it : Addr) (fp : List Addr) (tn : Nat → Heap → Prop) (J : It) (H' : Hp), itv = .ref it ∧ Inv X pins σ H' s2 ∧ Turn X.prog X.w X.K tg J fp it tn ∧ tn 0 s2.heap ∧ (∀ b ∈ fp, FpOk X pins H' b) ∧ R J H'
def PI (X : Cx) (tg iter : Expr) (wi : TI) : Prop :=
  ∀ (pins : List (Addr × Obj)) (s : Shared) (σ : St) (H : Hp) (R : It → Hp → Prop), Inv X pins σ H s → wi σ H R →
    wpAny (model X.prog X.w) X.A (eval iter X.env) (fun v s1 => wpAny (model X.prog X.w) X.A (pyIter v) (PIE X pins σ tg R) X.xe s1) X.xe s

/-- the step ahead of the store is nothing for an iterator that keeps no tuple -/
theorem go_of {M : Model} {A : Around} {E : Value → Shared → Prop} {s : Shared} {tg : Expr} {it : Addr} {u : Value} {o : Obj} {n : String} {vs : Array Value} {Q : Unit → Shared → Prop} (ho : s.heap.get? it = some o) (hc : o.cls = .type n) (hd : o.data = .fields vs)
    (hn : ["enumerate", "zip", "dict_itemiterator", "dict_reverseitemiterator", "odict_iterator", "itertools.zip_longest", "itertools.pairwise"].contains n = false) (hQ : Q () s) : wpAny M A (letOwnedTupleGo tg (.ref it) u) Q E s := by
  unfold letOwnedTupleGo
  cases tg <;> first
    | exact wpAny_pure hQ
    | (cases u <;> first
        | exact wpAny_pure hQ
        | (refine wpAny_bind (wpAny_load ho ?_)
           rw [hc, hd]
           show wpAny M A (if (["enumerate", "zip", "dict_itemiterator", "dict_reverseitemiterator", "odict_iterator", "itertools.zip_longest", "itertools.pairwise"].contains n && vs[0]? == some (rawInt _)) = true then _ else _) Q E s
           rw [if_neg (by intro h; rw [hn, Bool.false_and] at h; cases h)]
           exact wpAny_pure hQ))

/-- the list at a, as it stands at each turn (a loop may append to it) -/
def Itl (K : PySem.W.Frag) (a : Addr) : It :=
  ⟨fun i H => ∃ xs x, SqL K H a xs ∧ xs[i]? = some x, fun i H x H' => H' = H ∧ ∀ xs, SqL K H a xs → xs[i]? = some x, fun i H => ∃ xs, SqL K H a xs ∧ xs.length ≤ i⟩
def Itt (K : PySem.W.Frag) (a : Addr) : It :=
  ⟨fun i H => ∃ xs x, SqT K H a xs ∧ xs[i]? = some x, fun i H x H' => H' = H ∧ ∀ xs, SqT K H a xs → xs[i]? = some x, fun i H => ∃ xs, SqT K H a xs ∧ xs.length ≤ i⟩
/-- lo, lo + 1, .. (n of them) -/
def Itr (lo : Int) (n : Nat) : It := ⟨fun i _ => i < n, fun i H x H' => H' = H ∧ x = .int (lo + i), fun i _ => n ≤ i⟩
theorem turn_list {P : Program} {w : World} {K : PySem.W.Frag} {tg : Expr} (a it : Addr) : Turn P w K tg (Itl K a) [it] it (fun i h => h.IsListIter it a i) where
  mem := by simp
  obj := fun i h st b hb => by
    have e : b = it := by simpa using hb
    subst e
    obtain ⟨o, e, c, d⟩ := st
    exact ⟨o, e, fun v z => by rw [d] at z; cases z⟩
  keep := fun i h h' st k => st.at fun o e => k it (by simp) o e
  item := by
    intro X hP hw hK hc i pins s σ H E I hf st hg
    subst hP hw hK
    obtain ⟨xs, x, hq, hx⟩ := hg
    obtain ⟨its, rv, p, hz⟩ := I.list hq
    obtain ⟨u, hu, ru⟩ := rv.get hx
    obtain ⟨f0, f1, f2, f3, f4, f5⟩ := hf it (by simp)
    refine wpAny_pyNext_list_item st p.isList (x := u) (by simpa using hu) fun h' st' sb => ?_
    have I1 : Inv X pins σ H { s with heap := h' } := I.turned (t' := s.toks) (fun b o hb e => (sb.2 b hb).trans e) f0 f1 f3 f4 f5
    obtain ⟨o, e, c, d⟩ := id st'
    exact ⟨u, rfl, go_of (s := { s with heap := h' }) e c d (by decide) ⟨x, H, I1, ru, ⟨rfl, fun ys hy => by rw [I.list_inj hy hq]; exact hx⟩, st', fun b hb => (hf b hb).1⟩⟩
  done := by
    intro X hP hw hK hc i pins s σ H E I hf st hg
    subst hP hw hK
    obtain ⟨xs, hq, hx⟩ := hg
    obtain ⟨its, rv, p, hz⟩ := I.list hq
    obtain ⟨f0, f1, f2, f3, f4, f5⟩ := hf it (by simp)
    have hl := rv.length
    exact wpAny_pyNext_list_end (I.ok.hd hc) st p.isList (by simp; omega) fun h' eb => ⟨rfl, I.turned (t' := s.toks) (fun b o hb e => eb b o hb e) f0 f1 f3 f4 f5⟩
  self := fun _ _ _ _ _ st h => wpAny_pyIter_listiter st h
theorem turn_tuple {P : Program} {w : World} {K : PySem.W.Frag} {tg : Expr} (a it : Addr) : Turn P w K tg (Itt K a) [it] it (fun i h => h.IsTupleIter it a i) where
  mem := by simp
  obj := fun i h st b hb => by
    have e : b = it := by simpa using hb
    subst e
    obtain ⟨o, e, c, d⟩ := st
    exact ⟨o, e, fun v z => by rw [d] at z; cases z⟩
  keep := fun i h h' st k => st.at fun o e => k it (by simp) o e
  item := by
    intro X hP hw hK hc i pins s σ H E I hf st hg
    subst hP hw hK
    obtain ⟨xs, x, hq, hx⟩ := hg
    obtain ⟨its, rv, p, hz⟩ := I.tuple hq
    obtain ⟨u, hu, ru⟩ := rv.get hx
    obtain ⟨f0, f1, f2, f3, f4, f5⟩ := hf it (by simp)
    refine wpAny_pyNext_tuple_item st (show s.heap.IsTuple a its.toArray from p) (x := u) (by simpa using hu) fun h' st' sb => ?_
    have I1 : Inv X pins σ H { s with heap := h' } := I.turned (t' := s.toks) (fun b o hb e => (sb.2 b hb).trans e) f0 f1 f3 f4 f5
    obtain ⟨o, e, c, d⟩ := id st'
    exact ⟨u, rfl, go_of (s := { s with heap := h' }) e c d (by decide) ⟨x, H, I1, ru, ⟨rfl, fun ys hy => by rw [I.tuple_inj hy hq]; exact hx⟩, st', fun b hb => (hf b hb).1⟩⟩
  done := by
    intro X hP hw hK hc i pins s σ H E I hf st hg
    subst hP hw hK
    obtain ⟨xs, hq, hx⟩ := hg
    obtain ⟨its, rv, p, hz⟩ := I.tuple hq
    obtain ⟨f0, f1, f2, f3, f4, f5⟩ := hf it (by simp)
    have hl := rv.length
    exact wpAny_pyNext_tuple_end (I.ok.hd hc) st (show s.heap.IsTuple a its.toArray from p) (by simp; omega) fun h' eb => ⟨rfl, I.turned (t' := s.toks) (fun b o hb e => eb b o hb e) f0 f1 f3 f4 f5⟩
  self := fun _ _ _ _ _ st h => wpAny_pyIter_tupleiter st h
theorem turn_range {P : Program} {w : World} {K : PySem.W.Frag} {tg : Expr} (it : Addr) (lo : Int) (n : Nat) : Turn P w K tg (Itr lo n) [it] it (fun i h => IsRangeIter h it (lo + (i : Nat) * 1) ((n : Int) - (i : Nat)) 1) where
  mem := by simp
  obj := fun i h st b hb => by
    have e : b = it := by simpa using hb
    subst e
    exact ⟨_, st, fun v z => by
      have z' : Data.fields _ = Data.cell v := z
      cases z'⟩
  keep := fun i h h' st k => k it (by simp) _ st
  item := by
    intro X hP hw hK hc i pins s σ H E I hf st hg
    subst hP hw hK
    obtain ⟨f0, f1, f2, f3, f4, f5⟩ := hf it (by simp)
    have W := Walks.range (prog := X.prog) (w := X.w) (I.ok.hd hc) it lo 1 n
    refine W.item i s _ _ hg st fun v h' tk hv st' kk => ?_
    obtain ⟨t, rfl⟩ := hv
    have I1 : Inv X pins σ H { s with heap := h', toks := tk } := I.turned (fun b o hb e => kk b o (by simpa using hb) e) f0 f1 f3 f4 f5
    refine ⟨_, rfl, go_of (s := { s with heap := h', toks := tk }) (n := "range_iterator") st' rfl rfl (by decide) ⟨.int (lo + i), H, I1, ⟨t, ?_⟩, ⟨rfl, rfl⟩, st', fun b hb => (hf b hb).1⟩⟩
    rw [Int.mul_one]
  done := by
    intro X hP hw hK hc i pins s σ H E I hf st hg
    subst hP hw hK
    obtain ⟨f0, f1, f2, f3, f4, f5⟩ := hf it (by simp)
    exact wpAny_pyNext_range_end (I.ok.hd hc) st (by have : n ≤ i := hg; omega) fun h' eb => ⟨rfl, I.turned (t' := s.toks) (fun b o hb e => eb b o hb e) f0 f1 f3 f4 f5⟩
  self := fun _ _ _ _ _ st h => wpAny_pyIter_rangeiter st h
end L2

namespace L2
open PySem PySem.Spec PyProof.Rows
section
variable {X : Cx} {tg : Expr}
def iList (K : PySem.W.Frag) (tl : TE) : TI := fun σ H R => tl σ H fun x H1 => ∃ a, x = .ref a ∧ (∃ xs, SqL K H1 a xs) ∧ R (Itl K a) H1
def iTup (K : PySem.W.Frag) (tl : TE) : TI := fun σ H R => tl σ H fun x H1 => ∃ a, x = .ref a ∧ (∃ xs, SqT K H1 a xs) ∧ R (Itt K a) H1
theorem pi_list {l : Expr} {tl : TE} (hl : PE X l tl) : PI X tg l (iList X.K tl) := by
  intro pins s σ H R I h
  refine thn (hl pins s σ H _ I h) fun v s1 ⟨x, H1, I1, r1, q1⟩ => ?_
  obtain ⟨a, e, ⟨xs, hq⟩, q⟩ := q1
  subst e
  cases r1
  obtain ⟨its, rv, p, hz⟩ := I1.list hq
  refine wpAny_pyIter_list p.isList ?_
  refine ⟨s1.heap.objs.size, [s1.heap.objs.size], _, _, H1, rfl, I1.kept (t' := s1.toks) fun b o e => Heap.get?_push_of_some _ e, turn_list a _, ⟨_, Heap.get?_push_size _ rfl, rfl, rfl⟩, fun b hb => ?_, q⟩
  have e : b = s1.heap.objs.size := by simpa using hb
  subst e
  exact I1.fpOk (Nat.le_refl _) (I1.hok.fresh (Nat.le_refl _))
theorem pi_tup {l : Expr} {tl : TE} (hl : PE X l tl) : PI X tg l (iTup X.K tl) := by
  intro pins s σ H R I h
  refine thn (hl pins s σ H _ I h) fun v s1 ⟨x, H1, I1, r1, q1⟩ => ?_
  obtain ⟨a, e, ⟨xs, hq⟩, q⟩ := q1
  subst e
  cases r1
  obtain ⟨its, rv, p, hz⟩ := I1.tuple hq
  refine wpAny_pyIter_tuple (show s1.heap.IsTuple a its.toArray from p) ?_
  refine ⟨s1.heap.objs.size, [s1.heap.objs.size], _, _, H1, rfl, I1.kept (t' := s1.toks) fun b o e => Heap.get?_push_of_some _ e, turn_tuple a _, ⟨_, Heap.get?_push_size _ rfl, rfl, rfl⟩, fun b hb => ?_, q⟩
  have e : b = s1.heap.objs.size := by simpa using hb
  subst e
  exact I1.fpOk (Nat.le_refl _) (I1.hok.fresh (Nat.le_refl _))
/-- a range object just made, walked -/
theorem range_it {pins : List (Addr × Obj)} {σ : St} {H : Hp} {s : Shared} {R : It → Hp → Prop} {E : Value → Shared → Prop} {lo hi : Int} {t u v : Tok} {tk : Nat} (I : Inv X pins σ H s) (h1 : -(2 ^ 62) ≤ lo) (h2 : lo < 2 ^ 62) (h3 : -(2 ^ 62) ≤ hi) (h4 : hi < 2 ^ 62)
    (q : R (Itr lo (hi - lo).toNat) H) : wpAny (model X.prog X.w) X.A (pyIter (.ref s.heap.objs.size)) (PIE X pins σ tg R) E { s with heap := s.heap.push { cls := .type "range", data := .fields #[.int lo t, .int hi u, .int 1 v] }, toks := tk } := by
  refine wpAny_pyIter_range (IsRange.new ..) (small_one h1 h2 h3 h4) ?_
  have I1 : Inv X pins σ H { s with heap := s.heap.push { cls := .type "range", data := .fields #[.int lo t, .int hi u, .int 1 v] }, toks := tk } := I.kept fun b o e => Heap.get?_push_of_some _ e
  refine ⟨(s.heap.push { cls := .type "range", data := .fields #[.int lo t, .int hi u, .int 1 v] }).objs.size, [(s.heap.push { cls := .type "range", data := .fields #[.int lo t, .int hi u, .int 1 v] }).objs.size], _, _, H, rfl,
    I1.kept (t' := tk) fun b o e => Heap.get?_push_of_some _ e, turn_range _ lo (hi - lo).toNat, ?_, fun b hb => ?_, q⟩
  · have e1 : lo + ((0 : Nat) : Int) * 1 = lo := by simp
    have e2 : (((hi - lo).toNat : Nat) : Int) - ((0 : Nat) : Int) = Builtin.Range.rangeSize lo hi 1 := by rw [rangeSize_one]; split <;> omega
    show IsRangeIter _ _ (lo + ((0 : Nat) : Int) * 1) ((((hi - lo).toNat : Nat) : Int) - ((0 : Nat) : Int)) 1
    rw [e1, e2]
    exact Heap.get?_push_size _ rfl
  · have e : b = (s.heap.push { cls := .type "range", data := .fields #[.int lo t, .int hi u, .int 1 v] }).objs.size := by simpa using hb
    subst e
    exact I1.fpOk (Nat.le_refl _) (I1.hok.fresh (Nat.le_refl _))
def iRng1 (ta : TA) : TI := fun σ H R => ta σ H fun vs H1 => ∃ j : Int, vs = [.int j] ∧ -(2 ^ 62) ≤ j ∧ j < 2 ^ 62 ∧ R (Itr 0 j.toNat) H1
theorem pi_range1 {a : Expr} {ta : TA} {p pos : Pos} (hg : Gl X "range") (hm : X.mg "range" = none) (ha : PA X [a] ta) (hs : starEach [a] X.env = [(false, eval a X.env)] := by rfl) : PI X tg (.Call (.Name "range" p) [a] [] pos) (iRng1 ta) := by
  intro pins s σ H R I h
  refine Call_ (ld_blt I hg hm boot_range (PyProof.Rows.callWith_type1 (thn (ha pos pins s σ H _ I h) fun us s1 ⟨vs, H1, I1, r1, q1⟩ => ?_) hs rfl))
  obtain ⟨j, e, q1, q2, q⟩ := q1
  subst e
  cases r1 with
  | cons r rr =>
    cases rr
    obtain ⟨t, rfl⟩ := r
    exact call_range_1 (range_it I1 (by omega) (by omega) q1 q2 (by simpa using q))
/-! ### for -/
/-- W: the invariant by the turn and a measure; N: what the body is to reach -/
def tFor (wi : TI) (g : TG) (tb : TS) : TS := fun D σ H => wi σ H fun J H1 => ∃ W : Nat → Nat → St → Hp → Prop, (∃ m, W 0 m σ H1) ∧ ∀ i m σ H, W i m σ H →
  (J.stop i H ∧ D.nx σ H) ∨ (J.go i H ∧ ∃ N : St → Hp → Prop, (∀ σ' H', N σ' H' → ∃ m', m' < m ∧ W (i + 1) m' σ' H') ∧ ∀ x H', J.yld i H x H' → g x σ H' fun σ2 H2 => tb { D with nx := N, ct := N, bk := D.nx } σ2 H2)
/-- the records at fp as they stand -/
def pinsAt (fp : List Addr) (h : Heap) : List (Addr × Obj) := fp.filterMap fun b => (h.get? b).map fun o => (b, o)
theorem mem_pinsAt {fp : List Addr} {h : Heap} {b : Addr} {o : Obj} (hb : b ∈ fp) (e : h.get? b = some o) : (b, o) ∈ pinsAt fp h := List.mem_filterMap.mpr ⟨b, hb, by rw [e]; rfl⟩
theorem of_pinsAt {fp : List Addr} {h : Heap} {p : Addr × Obj} (hp : p ∈ pinsAt fp h) : p.1 ∈ fp ∧ h.get? p.1 = some p.2 := by
  obtain ⟨b, hb, e⟩ := List.mem_filterMap.mp hp
  cases q : h.get? b with
  | none => rw [q] at e; cases e
  | some o =>
    rw [q] at e
    have e' : (b, o) = p := Option.some.inj e
    subst e'
    exact ⟨hb, q⟩
theorem Inv.pinned {pins : List (Addr × Obj)} {σ : St} {H : Hp} {s : Shared} {fp : List Addr} (I : Inv X pins σ H s) (hf : ∀ b ∈ fp, FpOk X pins H b) (ho : ∀ b ∈ fp, ∃ o, s.heap.get? b = some o ∧ ∀ v, o.data ≠ .cell v) : Inv X (pins ++ pinsAt fp s.heap) σ H s :=
  I.pins_of fun p hp => (List.mem_append.mp hp).elim (fun z => I.pin p (List.mem_append_right _ z)) fun z => by
    obtain ⟨hb, e⟩ := of_pinsAt z
    obtain ⟨f0, f1, f2, _⟩ := hf p.1 hb
    obtain ⟨o, e', d⟩ := ho p.1 hb
    rw [e] at e'; cases e'
    exact ⟨e, f0, f1, f2, d⟩
theorem Inv.unpinned {pins pl : List (Addr × Obj)} {σ : St} {H : Hp} {s : Shared} (I : Inv X (pins ++ pl) σ H s) : Inv X pins σ H s := I.pins_of fun p hp => I.pin p (List.mem_append_right _ (List.mem_append_left _ hp))
theorem ps_for {iter : Expr} {body : List Stmt} {wi : TI} {g : TG} {tb : TS} {pos : Pos} (hp : PassesOwn (model X.prog X.w) X.A X.env X.xe) (hc : X.calm = true) (hi : PI X tg iter wi) (hg : PG X tg g) (hb : PSs X body tb)
    (hs : ∀ x, foldedSetIterable iter X.env x = pure x := by intro _; rfl) : PS X (.For tg iter body [] pos) (tFor wi g tb) := by
  intro pins s σ H D I h
  refine wpAny_For (thn (hi pins s σ H _ I h) fun v s1 h1 => thn h1 fun itv s2 h2 => ?_) hs
  obtain ⟨it, fp, tn, J, H2, e, I2, T, st2, f2, W, ⟨m0, w0⟩, turn⟩ := h2
  subst e
  -- what stays true of the iterator's objects through the loop
  have stat : ∀ {H' : Hp}, (∀ b ∈ fp, H' b = none) → ∀ b ∈ fp, FpOk X pins H' b := fun hn b hb => ⟨hn b hb, (f2 b hb).2⟩
  refine codeAny_forLoop_any (fun n s' => ∃ i σ' H', Inv X pins σ' H' s' ∧ tn i s'.heap ∧ (∀ b ∈ fp, H' b = none) ∧ W i n σ' H') ?_ m0 ⟨0, σ, H2, I2, st2, fun b hb => (f2 b hb).1, w0⟩
  rintro n s3 ⟨i, σ3, H3, I3, st3, fr3, w3⟩
  rcases turn i n σ3 H3 w3 with ⟨stop, qn⟩ | ⟨go, N, hN, step⟩
  · refine wpAny_passesOwn hp (thn (T.done X rfl rfl rfl hc i pins s3 σ3 H3 X.xe I3 (stat fr3) st3 stop) fun r s4 ⟨hr, I4⟩ => ?_)
    subst hr
    exact wpAny_execs_nil ⟨σ3, H3, I4, qn⟩
  · refine wpAny_passesOwn hp (thn (T.item X rfl rfl rfl hc i pins s3 σ3 H3 X.xe I3 (stat fr3) st3 go) fun r s4 ⟨u, hr, h4⟩ => ?_)
    subst hr
    refine wpAny_passesOwn hp (thn h4 fun _ s5 ⟨x, H5, I5, r5, y5, st5, fr5⟩ => ?_)
    have I5' := I5.pinned (stat fr5) (T.obj _ _ st5)
    refine wpAny_passesOwn hp (thn (hg _ s5 σ3 H5 x u _ I5' r5 (step x H5 y5)) fun _ s6 ⟨σ6, H6, I6, q6⟩ => ?_)
    refine wpAny_passesOwn hp (thn (hb _ s6 σ6 H6 _ I6 q6) fun f s7 q7 => ?_)
    have again : ∀ {σ7 : St} {H7 : Hp}, Inv X (pins ++ pinsAt fp s5.heap) σ7 H7 s7 → N σ7 H7 → ∃ m, m < n ∧ ∃ i σ' H', Inv X pins σ' H' s7 ∧ tn i s7.heap ∧ (∀ b ∈ fp, H' b = none) ∧ W i m σ' H' := fun {σ7 H7} I7 n7 => by
      obtain ⟨m', hm, w7⟩ := hN σ7 H7 n7
      refine ⟨m', hm, i + 1, σ7, H7, I7.unpinned, T.keep _ _ _ st5 fun b hb o e => (I7.pin (b, o) (List.mem_append_right _ (List.mem_append_right _ (mem_pinsAt hb e)))).1, fun b hb => ?_, w7⟩
      obtain ⟨o, e, d⟩ := T.obj _ _ st5 b hb
      exact (I7.pin (b, o) (List.mem_append_right _ (List.mem_append_right _ (mem_pinsAt hb e)))).2.1
    cases f with
    | next => obtain ⟨σ7, H7, I7, n7⟩ := q7; exact again I7 n7
    | cont => obtain ⟨σ7, H7, I7, n7⟩ := q7; exact again I7 n7
    | brk => obtain ⟨σ7, H7, I7, q7⟩ := q7; exact ⟨σ7, H7, I7.unpinned, q7⟩
    | ret v => obtain ⟨x7, σ7, H7, I7, r7, q7⟩ := q7; exact ⟨x7, σ7, H7, I7.unpinned, r7, q7⟩
end

/-! ### the forms one uses -/
/-- over a list that the body leaves as it is -/
theorem for_list {K : PySem.W.Frag} {a : Addr} {xs : List V} {g : TG} {tb : TS} {D : Ends} {σ : St} {H : Hp} (Pv : Nat → St → Hp → Prop) (h0 : Pv 0 σ H) (hl : ∀ i σ H, i ≤ xs.length → Pv i σ H → SqL K H a xs)
    (hs : ∀ i x σ H, xs[i]? = some x → Pv i σ H → g x σ H fun σ2 H2 => tb { D with nx := Pv (i + 1), ct := Pv (i + 1), bk := D.nx } σ2 H2) (hd : ∀ σ H, Pv xs.length σ H → D.nx σ H) :
    ∃ W : Nat → Nat → St → Hp → Prop, (∃ m, W 0 m σ H) ∧ ∀ i m σ H, W i m σ H →
      ((Itl K a).stop i H ∧ D.nx σ H) ∨ ((Itl K a).go i H ∧ ∃ N : St → Hp → Prop, (∀ σ' H', N σ' H' → ∃ m', m' < m ∧ W (i + 1) m' σ' H') ∧ ∀ x H', (Itl K a).yld i H x H' → g x σ H' fun σ2 H2 => tb { D with nx := N, ct := N, bk := D.nx } σ2 H2) := by
  refine ⟨fun i m σ H => m = xs.length - i ∧ i ≤ xs.length ∧ Pv i σ H, ⟨xs.length, by simp, Nat.zero_le _, h0⟩, ?_⟩
  rintro i m σ H ⟨rfl, hi, p⟩
  have q := hl i σ H hi p
  by_cases hlt : i < xs.length
  · refine .inr ⟨⟨xs, xs[i], q, by simp [hlt]⟩, Pv (i + 1), fun σ' H' p' => ⟨xs.length - (i + 1), by omega, rfl, hlt, p'⟩, fun x H' y => ?_⟩
    obtain ⟨e, y⟩ := y
    subst e
    exact hs i x σ _ (y xs q) p
  · have e : i = xs.length := by omega
    subst e
    exact .inl ⟨⟨xs, q, Nat.le_refl _⟩, hd σ H p⟩
theorem for_tup {K : PySem.W.Frag} {a : Addr} {xs : List V} {g : TG} {tb : TS} {D : Ends} {σ : St} {H : Hp} (Pv : Nat → St → Hp → Prop) (h0 : Pv 0 σ H) (hl : ∀ i σ H, i ≤ xs.length → Pv i σ H → SqT K H a xs)
    (hs : ∀ i x σ H, xs[i]? = some x → Pv i σ H → g x σ H fun σ2 H2 => tb { D with nx := Pv (i + 1), ct := Pv (i + 1), bk := D.nx } σ2 H2) (hd : ∀ σ H, Pv xs.length σ H → D.nx σ H) :
    ∃ W : Nat → Nat → St → Hp → Prop, (∃ m, W 0 m σ H) ∧ ∀ i m σ H, W i m σ H →
      ((Itt K a).stop i H ∧ D.nx σ H) ∨ ((Itt K a).go i H ∧ ∃ N : St → Hp → Prop, (∀ σ' H', N σ' H' → ∃ m', m' < m ∧ W (i + 1) m' σ' H') ∧ ∀ x H', (Itt K a).yld i H x H' → g x σ H' fun σ2 H2 => tb { D with nx := N, ct := N, bk := D.nx } σ2 H2) := by
  refine ⟨fun i m σ H => m = xs.length - i ∧ i ≤ xs.length ∧ Pv i σ H, ⟨xs.length, by simp, Nat.zero_le _, h0⟩, ?_⟩
  rintro i m σ H ⟨rfl, hi, p⟩
  have q := hl i σ H hi p
  by_cases hlt : i < xs.length
  · refine .inr ⟨⟨xs, xs[i], q, by simp [hlt]⟩, Pv (i + 1), fun σ' H' p' => ⟨xs.length - (i + 1), by omega, rfl, hlt, p'⟩, fun x H' y => ?_⟩
    obtain ⟨e, y⟩ := y
    subst e
    exact hs i x σ _ (y xs q) p
  · have e : i = xs.length := by omega
    subst e
    exact .inl ⟨⟨xs, q, Nat.le_refl _⟩, hd σ H p⟩
end L2

namespace L2
open PySem PySem.Spec PyProof.Rows

abbrev R2 := V → V → Hp → VK → Prop
/-- a two-place operation on values: f is binaryOp op, inplaceOp op or compareOp op -/
def OpR (X : Cx) (f : Value → Value → Sem Value) (r : R2) : Prop :=
  ∀ (pins : List (Addr × Obj)) (s : Shared) (σ : St) (H : Hp) (x y : V) (v u : Value) (Q : VK), Inv X pins σ H s → RelV x v → RelV y u → r x y H Q →
    wpAny (model X.prog X.w) X.A (f v u) (EP X pins σ Q) X.xe s
/-- a one-place operation -/
def UnR (X : Cx) (f : Value → Sem Value) (r : V → Hp → VK → Prop) : Prop :=
  ∀ (pins : List (Addr × Obj)) (s : Shared) (σ : St) (H : Hp) (x : V) (v : Value) (Q : VK), Inv X pins σ H s → RelV x v → r x H Q →
    wpAny (model X.prog X.w) X.A (f v) (EP X pins σ Q) X.xe s
/-- a call of a value that is known (a builtin, a type) with values -/
def CallR (X : Cx) (f : Value) (r : List V → Hp → VK → Prop) : Prop :=
  ∀ (pins : List (Addr × Obj)) (s : Shared) (σ : St) (H : Hp) (xs : List V) (us : List Value) (Q : VK), Inv X pins σ H s → Vals xs us → r xs H Q →
    wpAny (model X.prog X.w) X.A (call f us) (EP X pins σ Q) X.xe s
def tOp (r : R2) (ta tb : TE) : TE := fun σ H Q => ta σ H fun x H1 => tb σ H1 fun y H2 => r x y H2 Q
def tUn (r : V → Hp → VK → Prop) (ta : TE) : TE := fun σ H Q => ta σ H fun x H1 => r x H1 Q
/-- ints in, under C, and a value out -/
def rI (C : Int → Int → Prop) (g : Int → Int → V) : R2 := fun x y H Q => ∃ i j, x = .int i ∧ y = .int j ∧ C i j ∧ Q (g i j) H
def rI0 (g : Int → Int → V) : R2 := fun x y H Q => ∃ i j, x = .int i ∧ y = .int j ∧ Q (g i j) H
def rU (g : Int → V) : V → Hp → VK → Prop := fun x H Q => ∃ i, x = .int i ∧ Q (g i) H

section
variable {X : Cx} {a b c : Expr} {ta tb tc : TE} {pos : Pos}

theorem binT (ha : PE X a ta) (hb : PE X b tb) {pins : List (Addr × Obj)} {s : Shared} {σ : St} {H : Hp} {R : V → V → Hp → Prop} (I : Inv X pins σ H s)
    (h : ta σ H fun x H1 => tb σ H1 fun y H2 => R x y H2) {Q : Value → Shared → Prop} {f : Value → Value → Sem Value}
    (hf : ∀ v u s2 x y H2, Inv X pins σ H2 s2 → RelV x v → RelV y u → R x y H2 → wpAny (model X.prog X.w) X.A (f v u) Q X.xe s2) :
    wpAny (model X.prog X.w) X.A (eval a X.env) (fun v s₁ => wpAny (model X.prog X.w) X.A (eval b X.env) (fun u s₂ => wpAny (model X.prog X.w) X.A (f v u) Q X.xe s₂) X.xe s₁) X.xe s := by
  refine thn (ha pins s σ H _ I h) fun v s1 ⟨x, H1, I1, r1, q1⟩ => ?_
  refine thn (hb pins s1 σ H1 _ I1 q1) fun u s2 ⟨y, H2, I2, r2, q2⟩ => ?_
  exact hf v u s2 x y H2 I2 r1 r2 q2

theorem pe_op {op : Operator} {r : R2} (ho : OpR X (binaryOp op) r) (ha : PE X a ta) (hb : PE X b tb) : PE X (.BinOp a op b pos) (tOp r ta tb) := by
  intro pins s σ H Q I h
  exact wpAny_BinOp (binT ha hb I h fun v u s2 x y H2 I2 rx ry q => ho pins s2 σ H2 x y v u Q I2 rx ry q)
theorem pe_un {op : UnaryOp} {r : V → Hp → VK → Prop} (ho : UnR X (unaryOp op) r) (ha : PE X a ta) : PE X (.UnaryOp op a pos) (tUn r ta) := by
  intro pins s σ H Q I h
  exact UnaryOp_ (thn (ha pins s σ H _ I h) fun v s1 ⟨x, H1, I1, r1, q1⟩ => ho pins s1 σ H1 x v Q I1 r1 q1)
/-! ### ints -/
theorem opI {f : Value → Value → Sem Value} {C : Int → Int → Prop} {g : Int → Int → Int}
    (rule : ∀ (i j : Int) (t u : Tok) (s : Shared) (Q : Value → Shared → Prop) (E : Value → Shared → Prop), C i j → Q (.int (g i j) s.toks) { s with toks := s.toks + 1 } → wpAny (model X.prog X.w) X.A (f (.int i t) (.int j u)) Q E s) :
    OpR X f (rI C fun i j => .int (g i j)) := by
  intro pins s σ H x y v u Q I rx ry h
  obtain ⟨i, j, rfl, rfl, hc, q⟩ := h
  obtain ⟨t, rfl⟩ := rx
  obtain ⟨t', rfl⟩ := ry
  exact rule i j t t' s _ _ hc ⟨.int (g i j), H, I.tok _, ⟨_, rfl⟩, q⟩
theorem opI0 {f : Value → Value → Sem Value} {g : Int → Int → Int}
    (rule : ∀ (i j : Int) (t u : Tok) (s : Shared) (Q : Value → Shared → Prop) (E : Value → Shared → Prop), Q (.int (g i j) s.toks) { s with toks := s.toks + 1 } → wpAny (model X.prog X.w) X.A (f (.int i t) (.int j u)) Q E s) :
    OpR X f (rI0 fun i j => .int (g i j)) := by
  intro pins s σ H x y v u Q I rx ry h
  obtain ⟨i, j, rfl, rfl, q⟩ := h
  obtain ⟨t, rfl⟩ := rx
  obtain ⟨t', rfl⟩ := ry
  exact rule i j t t' s _ _ ⟨.int (g i j), H, I.tok _, ⟨_, rfl⟩, q⟩
theorem opB0 {f : Value → Value → Sem Value} {g : Int → Int → Bool}
    (rule : ∀ (i j : Int) (t u : Tok) (s : Shared) (Q : Value → Shared → Prop) (E : Value → Shared → Prop), Q (.bool (g i j)) s → wpAny (model X.prog X.w) X.A (f (.int i t) (.int j u)) Q E s) :
    OpR X f (rI0 fun i j => .bl (g i j)) := by
  intro pins s σ H x y v u Q I rx ry h
  obtain ⟨i, j, rfl, rfl, q⟩ := h
  obtain ⟨t, rfl⟩ := rx
  obtain ⟨t', rfl⟩ := ry
  exact rule i j t t' s _ _ ⟨.bl (g i j), H, I, rfl, q⟩

def CMul (i j : Int) : Prop := (-(2 ^ 64) < i ∧ i < 2 ^ 64) ∨ (-(2 ^ 64) < j ∧ j < 2 ^ 64)
theorem CMul.ok {i j : Int} (h : CMul i j) : IntMulOk i j := by
  rcases h with ⟨h1, h2⟩ | ⟨h1, h2⟩
  · exact .of_left (intBits_le_64 h1 h2)
  · exact .of_right (intBits_le_64 h1 h2)
theorem op_add : OpR X (binaryOp .Add) (rI0 fun i j => .int (i + j)) := opI0 fun _ _ _ _ _ _ _ q => add_int q
theorem op_sub : OpR X (binaryOp .Sub) (rI0 fun i j => .int (i - j)) := opI0 fun _ _ _ _ _ _ _ q => sub_int q
theorem op_mul : OpR X (binaryOp .Mult) (rI CMul fun i j => .int (i * j)) := opI fun _ _ _ _ _ _ _ hc q => mul_int q hc.ok
/-- % by a positive divisor of any size -/
theorem op_mod : OpR X (binaryOp .Mod) (rI (fun _ j => 0 < j) fun i j => .int (i % j)) := opI fun i j _ _ _ _ _ hc q => by
  have h1 : (0 : Int) < j := hc
  exact mod_int' (by omega) (by rw [Int.fmod_eq_emod_of_nonneg i (by omega)]; exact q)
theorem unI {f : Value → Sem Value} {g : Int → Int}
    (rule : ∀ (i : Int) (t : Tok) (s : Shared) (Q : Value → Shared → Prop) (E : Value → Shared → Prop), Q (.int (g i) s.toks) { s with toks := s.toks + 1 } → wpAny (model X.prog X.w) X.A (f (.int i t)) Q E s) :
    UnR X f (rU fun i => .int (g i)) := by
  intro pins s σ H x v Q I rx h
  obtain ⟨i, rfl, q⟩ := h
  obtain ⟨t, rfl⟩ := rx
  exact rule i t s _ _ ⟨.int (g i), H, I.tok _, ⟨_, rfl⟩, q⟩
theorem un_neg : UnR X (unaryOp .USub) (rU fun i => .int (-i)) := unI fun _ _ _ _ _ q => neg_int q
/-! ### bools among ints: n += (a < b) -/
end

/-! ### comparisons -/
/-- the scalars that == tells apart as data does -/
def scal : V → V → Bool
  | .non, .non => true | .non, .int _ => true | .int _, .non => true | .non, .bl _ => true | .bl _, .non => true | .non, .str _ => true | .str _, .non => true
  | .int _, .int _ => true | .bl _, .bl _ => true | .str _, .str _ => true | .byt _, .byt _ => true
  | .int _, .str _ => true | .str _, .int _ => true | .bl _, .str _ => true | .str _, .bl _ => true
  | _, _ => false
def rEq : R2 := fun x y H Q => scal x y = true ∧ Q (.bl (decide (x = y))) H
def rNe : R2 := fun x y H Q => scal x y = true ∧ Q (.bl (!decide (x = y))) H

theorem dec_int {i j : Int} : decide (V.int i = V.int j) = (i == j) := by
  rw [Bool.eq_iff_iff]
  simp
theorem dec_bl {i j : Bool} : decide (V.bl i = V.bl j) = (i == j) := by
  rw [Bool.eq_iff_iff]
  simp
theorem dec_str {i j : Str} : decide (V.str i = V.str j) = (i == j) := by
  rw [Bool.eq_iff_iff]
  simp
theorem dec_byt {i j : Array UInt8} : decide (V.byt i = V.byt j) = (i.toList == j.toList) := by
  rw [Bool.eq_iff_iff]
  cases i
  cases j
  simp

section
variable {X : Cx} {a b c : Expr} {ta tb tc : TE} {pos : Pos}
theorem fin_bl {pins : List (Addr × Obj)} {σ : St} {H : Hp} {s : Shared} {Q : VK} {k k' : Bool} (I : Inv X pins σ H s) (q : Q (.bl k) H) (e : k = k') : EP X pins σ Q (.bool k') s := by
  subst e
  exact ⟨.bl k, H, I, rfl, q⟩
theorem op_eq : OpR X (compareOp .Eq) rEq := by
  intro pins s σ H x y v u Q I rx ry h
  obtain ⟨hs, q⟩ := h
  cases x with
  | non =>
    cases rx
    cases y with
    | non => cases ry; exact PySem.EqNone.eq_none_none (fin_bl I q (by simp))
    | bl j => cases ry; exact PySem.EqNone.eq_none_bool (fin_bl I q (by simp))
    | int j => obtain ⟨t', rfl⟩ := ry; exact PySem.EqNone.eq_none_int (fin_bl I q (by simp))
    | str j => obtain ⟨t', rfl⟩ := ry; exact PySem.EqNone.eq_none_str (fin_bl I q (by simp))
    | _ => exact absurd (show false = true from hs) Bool.false_ne_true
  | bl i =>
    cases rx
    cases y with
    | non => cases ry; exact PySem.EqNone.eq_bool_none (fin_bl I q (by simp))
    | bl j => cases ry; exact eq_bool (fin_bl I q dec_bl)
    | str j => obtain ⟨t', rfl⟩ := ry; exact PySem.EqMixed.eq_bool_str (fin_bl I q (by simp))
    | _ => exact absurd (show false = true from hs) Bool.false_ne_true
  | int i =>
    obtain ⟨t, rfl⟩ := rx
    cases y with
    | non => cases ry; exact PySem.EqNone.eq_int_none (fin_bl I q (by simp))
    | int j => obtain ⟨t', rfl⟩ := ry; exact eq_int (fin_bl I q dec_int)
    | str j => obtain ⟨t', rfl⟩ := ry; exact PySem.EqMixed.eq_int_str (fin_bl I q (by simp))
    | _ => exact absurd (show false = true from hs) Bool.false_ne_true
  | str i =>
    obtain ⟨t, rfl⟩ := rx
    cases y with
    | non => cases ry; exact PySem.EqNone.eq_str_none (fin_bl I q (by simp))
    | bl j => cases ry; exact PySem.EqMixed.eq_str_bool (fin_bl I q (by simp))
    | int j => obtain ⟨t', rfl⟩ := ry; exact PySem.EqMixed.eq_str_int (fin_bl I q (by simp))
    | str j => obtain ⟨t', rfl⟩ := ry; exact eq_str (fin_bl I q dec_str)
    | _ => exact absurd (show false = true from hs) Bool.false_ne_true
  | byt i =>
    obtain ⟨t, rfl⟩ := rx
    cases y with
    | byt j => obtain ⟨t', rfl⟩ := ry; exact PySem.W.eq_bytes (fin_bl I q dec_byt)
    | _ => exact absurd (show false = true from hs) Bool.false_ne_true
  | _ => cases y <;> exact absurd (show false = true from hs) Bool.false_ne_true
theorem op_ne : OpR X (compareOp .NotEq) rNe := by
  intro pins s σ H x y v u Q I rx ry h
  obtain ⟨hs, q⟩ := h
  cases x with
  | non =>
    cases rx
    cases y with
    | non => cases ry; exact PySem.EqNone.ne_none_none (fin_bl I q (by simp))
    | bl j => cases ry; exact PySem.EqNone.ne_none_bool (fin_bl I q (by simp))
    | int j => obtain ⟨t', rfl⟩ := ry; exact PySem.EqNone.ne_none_int (fin_bl I q (by simp))
    | str j => obtain ⟨t', rfl⟩ := ry; exact PySem.EqNone.ne_none_str (fin_bl I q (by simp))
    | _ => exact absurd (show false = true from hs) Bool.false_ne_true
  | bl i =>
    cases rx
    cases y with
    | non => cases ry; exact PySem.EqNone.ne_bool_none (fin_bl I q (by simp))
    | bl j => cases ry; exact ne_bool (fin_bl I q (congrArg not dec_bl))
    | str j => obtain ⟨t', rfl⟩ := ry; exact PySem.EqMixed.ne_bool_str (fin_bl I q (by simp))
    | _ => exact absurd (show false = true from hs) Bool.false_ne_true
  | int i =>
    obtain ⟨t, rfl⟩ := rx
    cases y with
    | non => cases ry; exact PySem.EqNone.ne_int_none (fin_bl I q (by simp))
    | int j => obtain ⟨t', rfl⟩ := ry; exact ne_int (fin_bl I q (congrArg not dec_int))
    | str j => obtain ⟨t', rfl⟩ := ry; exact PySem.EqMixed.ne_int_str (fin_bl I q (by simp))
    | _ => exact absurd (show false = true from hs) Bool.false_ne_true
  | str i =>
    obtain ⟨t, rfl⟩ := rx
    cases y with
    | non => cases ry; exact PySem.EqNone.ne_str_none (fin_bl I q (by simp))
    | bl j => cases ry; exact PySem.EqMixed.ne_str_bool (fin_bl I q (by simp))
    | int j => obtain ⟨t', rfl⟩ := ry; exact PySem.EqMixed.ne_str_int (fin_bl I q (by simp))
    | str j => obtain ⟨t', rfl⟩ := ry; exact ne_str (fin_bl I q (congrArg not dec_str))
    | _ => exact absurd (show false = true from hs) Bool.false_ne_true
  | byt i =>
    obtain ⟨t, rfl⟩ := rx
    cases y with
    | byt j => obtain ⟨t', rfl⟩ := ry; exact PySem.W.ne_bytes (fin_bl I q (congrArg not dec_byt))
    | _ => exact absurd (show false = true from hs) Bool.false_ne_true
  | _ => cases y <;> exact absurd (show false = true from hs) Bool.false_ne_true

theorem op_lt : OpR X (compareOp .Lt) (rI0 fun i j => .bl (decide (i < j))) := opB0 fun _ _ _ _ _ _ _ q => lt_int q
theorem op_le : OpR X (compareOp .LtE) (rI0 fun i j => .bl (decide (i ≤ j))) := opB0 fun _ _ _ _ _ _ _ q => le_int q
theorem op_gt : OpR X (compareOp .Gt) (rI0 fun i j => .bl (decide (j < i))) := opB0 fun _ _ _ _ _ _ _ q => gt_int q
theorem op_ge : OpR X (compareOp .GtE) (rI0 fun i j => .bl (decide (j ≤ i))) := opB0 fun _ _ _ _ _ _ _ q => ge_int q
theorem nomark (b : Expr) {op : CmpOp} (h : op ≠ .In := by decide) (h2 : op ≠ .NotIn := by decide) : behindInMarks op b = false := by
  have e1 : (op == CmpOp.In) = false := by cases op <;> first | rfl | exact absurd rfl h
  have e2 : (op == CmpOp.NotIn) = false := by cases op <;> first | rfl | exact absurd rfl h2
  cases b <;> simp [behindInMarks, e1, e2]
/-- a comparison as a value; hm: nomark b, or (for in, not in) by with_unfolding_all rfl -/
theorem pe_cmpR {op : CmpOp} {r : R2} (ho : OpR X (compareOp op) r) (ha : PE X a ta) (hb : PE X b tb) (hm : behindInMarks op b = false) : PE X (.Compare a [op] [b] pos) (tOp r ta tb) := by
  intro pins s σ H Q I h
  exact wpAny_Compare1 (binT ha hb I h fun v u s2 x y H2 I2 rx ry q => ho pins s2 σ H2 x y v u Q I2 rx ry q) hm
/-- a reading of a value as a test -/
def tTest (t : TE) : TT := fun σ H Q => t σ H fun x H' => ∃ k, x = .bl k ∧ Q k H'
theorem pt_cmpR {op : CmpOp} {r : R2} (ho : OpR X (compareOp op) r) (ha : PE X a ta) (hb : PE X b tb) (hm : behindInMarks op b = false) : PT X (.Compare a [op] [b] pos) (tTest (tOp r ta tb)) := by
  intro pins s σ H Q I h
  refine wpAny_isTrue_Compare1 (thn (ha pins s σ H _ I h) fun v s1 ⟨x, H1, I1, r1, q1⟩ => thn (hb pins s1 σ H1 _ I1 q1) fun u s2 ⟨y, H2, I2, r2, q2⟩ =>
    thn (ho pins s2 σ H2 x y v u _ I2 r1 r2 q2) fun c s3 ⟨z, H3, I3, r3, k, e, q3⟩ => ?_) hm
  subst e
  cases r3
  exact wpAny_truthy_bool ⟨H3, I3, q3⟩
/-- a op1 b op2 c -/
def tChain (r r' : R2) (ta tb tc : TE) : TE := fun σ H Q => ta σ H fun x H1 => tb σ H1 fun y H2 => r x y H2 fun z H3 => ∃ k, z = .bl k ∧
  (if k = true then tc σ H3 fun w' H4 => r' y w' H4 Q else Q (.bl false) H3)
theorem pe_chain {op op' : CmpOp} {r r' : R2} (ho : OpR X (compareOp op) r) (ho' : OpR X (compareOp op') r') (ha : PE X a ta) (hb : PE X b tb) (hc : PE X c tc)
    (hm : lastMarks [op, op'] [b, c] = false := by with_unfolding_all rfl) : PE X (.Compare a [op, op'] [b, c] pos) (tChain r r' ta tb tc) := by
  intro pins s σ H Q I h
  refine Compare_chain (thn (ha pins s σ H _ I h) fun v s1 ⟨x, H1, I1, r1, q1⟩ => chain_link (thn (hb pins s1 σ H1 _ I1 q1) fun u s2 ⟨y, H2, I2, r2, q2⟩ =>
    thn (ho pins s2 σ H2 x y v u _ I2 r1 r2 q2) fun d s3 ⟨z, H3, I3, r3, k, e, q3⟩ => ?_)) hm
  subst e
  cases r3
  refine wpAny_truthy_bool ?_
  cases k with
  | false => exact ite_ff ⟨.bl false, H3, I3, rfl, q3⟩
  | true => exact ite_tt (chain_last (thn (hc pins s3 σ H3 _ I3 q3) fun w' s4 ⟨z', H4, I4, r4, q4⟩ => ho' pins s4 σ H4 y z' u w' Q I4 r2 r4 q4))
/-! ### truth -/
theorem line63 : (sizeLine : Nat) < 2 ^ 63 := by rw [sizeLine_eq]; decide
/-! ### strs and bytes -/
/-! ### scalar builtins, by CallR -/
theorem vals1 {x : V} {us : List Value} (r : Vals [x] us) : ∃ u, us = [u] ∧ RelV x u := by
  cases r with
  | cons r1 r2 => cases r2; exact ⟨_, rfl, r1⟩
end
end L2

namespace L2
open PySem PySem.Spec PyProof.Rows

/-! ### an instance, its attributes a map -/
structure ObjM (h : Heap) (x dx C : Addr) (mA : Str → Option Value) : Prop where
  obj : h.get? x = some (PySem.W.instObj C dx)
  ns : h.Ns1 dx mA
  ne : dx ≠ x

theorem lookIn_ns {h : Heap} {dx : Addr} {mA : Str → Option Value} (n : h.Ns1 dx mA) : ∃ od, h.get? dx = some od ∧ ∀ name, PySem.W.lookIn name od = some (mA name) := by
  obtain ⟨o, es, ep, ho, hd, hk, _, hm⟩ := n
  refine ⟨o, ho, fun name => ?_⟩
  have e := hm name
  unfold nsFind findBy at e
  rw [← Array.find?_toList] at e
  unfold PySem.W.lookIn
  rw [hd]
  dsimp only
  split
  · rename_i y q
    rw [q] at e
    exact congrArg some e
  · rename_i q
    rw [q] at e
    have a : es.toList.any (·.refKey) = false := by
      rw [List.any_eq_false]
      intro y hy
      obtain ⟨z, t, hkey⟩ := hk y (Array.mem_toList_iff.mp hy)
      simp [DictEntry.refKey, hkey]
    have a' : ¬ es.toList.any (·.refKey) = true := by rw [a]; exact Bool.false_ne_true
    rw [if_neg a']
    exact congrArg some e

theorem ObjM.look {h : Heap} {x dx C : Addr} {mA : Str → Option Value} (I : ObjM h x dx C mA) : ∃ od, PySem.W.InstAt h x (PySem.W.instObj C dx) C (some od) ∧ ∀ name, PySem.W.lookIn name od = some (mA name) :=
  let ⟨od, ho, hl⟩ := lookIn_ns I.ns
  ⟨od, ⟨I.obj, rfl, rfl, ho⟩, hl⟩

section
variable {prog : Program} {w : World} {A : Around} {E : Value → Shared → Prop} {s : Shared} {K : PySem.W.Frag} {x dx C f : Addr} {mA : Str → Option Value} {name : Str} {v : Value}

theorem get_map {expr : Bool} {Q : Value → Shared → Prop} (X : K.In s.heap) (I : ObjM s.heap x dx C mA) (hg : PySem.W.plainGet K C name = true) (hh : PySem.W.hasDictIn K C = true)
    (ha : PySem.W.findIn K (.ref C) name = some none) (hv : mA name = some v) (hv' : PySem.W.handedIn v = true) (h : Q v { s with toks := s.toks + 1 }) :
    wpAny (model prog w) A (getAttr (.ref x) name expr) Q E s := by
  obtain ⟨od, J, hl⟩ := I.look
  exact PySem.W.get_value X J (PySem.W.plainGet_of hg).1 (PySem.W.findObj_own hh ha rfl (by rw [hl, hv])) hv' h

theorem get_meth {pl : Sem Bool} {Q : Value × List Value → Shared → Prop} (X : K.In s.heap) (I : ObjM s.heap x dx C mA) (hg : PySem.W.plainGet K C name = true)
    (hf : PySem.W.findIn K (.ref C) name = some (some (.ref f))) (ht : PySem.W.isFn K (.ref f) = true) (hv : mA name = none) (h : Q (.ref f, [.ref x]) s) :
    wpAny (model prog w) A (getMethod (.ref x) name pl) Q E s := by
  obtain ⟨od, J, hl⟩ := I.look
  exact PySem.W.method_fn X J (PySem.W.plainGet_of hg).1 (PySem.W.plainGet_of hg).2 hf (beq_iff_eq.mp ht) (by show (PySem.W.lookIn name od).map (·.isSome) = some false; rw [hl, hv]; rfl) h

theorem set_map {ns : List Str} {Q : Unit → Shared → Prop} (X : K.In s.heap) (I : ObjM s.heap x dx C mA)
    (hs : PySem.W.findIn K (.ref C) "__setattr__" = some (some (.builtin "object.__setattr__"))) (hp : PySem.W.plainOver K C = true) (ht : PySem.W.takerIn K C name = some none) (hh : PySem.W.hasDictIn K C = true)
    (hw : PySem.Within mA ns) (hsz : ns.length ≤ sizeLine)
    (h : ∀ h', ObjM h' x dx C (fun y => if y = name then some v else mA y) → Heap.SameBut dx s.heap h' → Q () { s with heap := h', toks := s.toks + 2 }) :
    wpAny (model prog w) A (setAttr (.ref x) name v) Q E s := by
  obtain ⟨od, J, hl⟩ := I.look
  refine PySem.W.set_plain X J hs (PySem.W.osa_open (s := { s with toks := s.toks + 1 }) (r := none) X J hp ht fun b => ?_)
  obtain ⟨cd, hc, hd'⟩ := PySem.W.any_some hh
  have hx : s.heap.get? x = some ⟨.ref C, some dx, .plain, #[]⟩ := I.obj
  refine wpAny_bind (wpAny_pure (wpAny_bind (wpAny_bind (wpAny_loadPart hx (wpAny_bind (PySem.W.Looks.here (s := { s with toks := s.toks + 1 }) (PySem.W.looks_clsIn X hc) ?_))))))
  rw [hd']
  refine wpAny_pure (a := some dx) (wpAny_bind (wpAny_pure (wpAny_bind ?_)))
  refine wpAny_nsSet1 (s := { s with toks := s.toks + 1 }) I.ns fun h' hn2 hs2 => ?_
  obtain ⟨oD, esD, epD, hoD, hdD, hcD⟩ := hn2.count (PySem.Within.cons name v hw)
  refine wpAny_bind (wpAny_lookBehind hoD (by rw [hdD]; exact pastItsLine_dict (Nat.le_trans hcD (by rw [List.length_cons]; omega))) ?_)
  exact wpAny_pure (h _ ⟨(hs2.2 _ (Ne.symm I.ne)).trans I.obj, hn2, I.ne⟩ hs2)

/-- C(..): the dict at the heap's end, the instance behind it; then its __init__ -/
theorem make_map {R : Result → Shared → Prop} {vs : List Value} {kw : List (Str × Value)} (X : K.In s.heap) (hm : PySem.W.makesIn K C = true)
    (hi : PySem.W.findIn K (.ref C) "__init__" = some (some (.ref f))) (hf : PySem.W.typeIn K (.ref f) = some (.type "function"))
    (h : codeAny (model prog w) (A.under (.builtin "type.__call__" ⟨.ref C :: vs, kw⟩)) (.call (.ref f) ⟨.ref (s.heap.objs.size + 1) :: vs, kw⟩) (PySem.W.InitBack (s.heap.objs.size + 1) R)
      { s with heap := (s.heap.push PySem.W.emptyDict).push (PySem.W.instObj C s.heap.objs.size) }) :
    codeAny (model prog w) A (.call (.ref C) ⟨vs, kw⟩) R s := by
  obtain ⟨hh, g, d, t, os⟩ := s
  exact PySem.W.make_core (PySem.W.makes_of X hm) (PySem.W.looks_findIn X hi) (fun self => PySem.W.bind_fn X self hf) (.inl rfl) h
end

/-! ### the attributes as a list of pairs -/
def putF (f : Str) (v : V) : List (Str × V) → List (Str × V)
  | [] => [(f, v)]
  | (g, x) :: r => if g = f then (g, v) :: r else (g, x) :: putF f v r
theorem lookup_putF (f g : Str) (v : V) : ∀ fs : List (Str × V), (putF f v fs).lookup g = if g = f then some v else fs.lookup g
  | [] => by
    show List.lookup g [(f, v)] = _
    by_cases h : g = f
    · have hb : (g == f) = true := beq_iff_eq.mpr h
      simp only [List.lookup, hb, if_pos h]
    · have hb : (g == f) = false := beq_eq_false_iff_ne.mpr h
      simp only [List.lookup, hb, if_neg h]
  | (k, x) :: r => by
    have ih := lookup_putF f g v r
    rw [show putF f v ((k, x) :: r) = (if k = f then (k, v) :: r else (k, x) :: putF f v r) from rfl]
    by_cases hk : k = f
    · rw [if_pos hk]
      by_cases h : g = k
      · have hb : (g == k) = true := beq_iff_eq.mpr h
        simp only [List.lookup, hb, if_pos (h.trans hk)]
      · have hb : (g == k) = false := beq_eq_false_iff_ne.mpr h
        simp only [List.lookup, hb, if_neg (fun e : g = f => h (e.trans hk.symm))]
    · rw [if_neg hk]
      by_cases h : g = k
      · have hb : (g == k) = true := beq_iff_eq.mpr h
        simp only [List.lookup, hb, if_neg (fun e : g = f => hk (h.symm.trans e))]
      · have hb : (g == k) = false := beq_eq_false_iff_ne.mpr h
        simp only [List.lookup, hb]
        exact ih
theorem keys_putF (f : Str) (v : V) : ∀ fs : List (Str × V), f ∈ (putF f v fs).map (·.1) ∧ ∀ g, g ∈ fs.map (·.1) → g ∈ (putF f v fs).map (·.1)
  | [] => ⟨by simp [putF], fun g h => by simp at h⟩
  | (k, x) :: r => by
    obtain ⟨i1, i2⟩ := keys_putF f v r
    rw [show putF f v ((k, x) :: r) = (if k = f then (k, v) :: r else (k, x) :: putF f v r) from rfl]
    by_cases hk : k = f
    · rw [if_pos hk]
      subst hk
      exact ⟨by simp, fun g h => by simpa using h⟩
    · rw [if_neg hk]
      refine ⟨?_, fun g h => ?_⟩
      · rw [List.map_cons]
        exact List.mem_cons_of_mem _ i1
      · rw [List.map_cons] at h ⊢
        rcases List.mem_cons.mp h with e | e
        · exact List.mem_cons.mpr (.inl e)
        · exact List.mem_cons_of_mem _ (i2 g e)
theorem length_putF (f : Str) (v : V) : ∀ fs : List (Str × V), (putF f v fs).length ≤ fs.length + 1
  | [] => by simp [putF]
  | (k, x) :: r => by
    have ih := length_putF f v r
    rw [show putF f v ((k, x) :: r) = (if k = f then (k, v) :: r else (k, x) :: putF f v r) from rfl]
    by_cases hk : k = f
    · rw [if_pos hk, List.length_cons, List.length_cons]; omega
    · rw [if_neg hk, List.length_cons, List.length_cons]; omega

theorem RelO.some_of {v : V} {o : Option Value} (r : RelO (some v) o) : ∃ u, o = some u ∧ RelV v u := by
  cases o with
  | none => exact (show False from r).elim
  | some u => exact ⟨u, rfl, r⟩
theorem RelO.none_of {o : Option Value} (r : RelO none o) : o = none := by
  cases o with
  | none => rfl
  | some u => exact (show False from r).elim
theorem handed_of {v : V} {u : Value} (r : RelV v u) : PySem.W.handedIn u = true := by
  cases v with
  | non => cases (show u = Value.none from r); rfl
  | bl b => cases (show u = Value.bool b from r); rfl
  | int i => obtain ⟨t, e⟩ := (show ∃ t, u = Value.int i t from r); cases e; rfl
  | str x => obtain ⟨t, e⟩ := (show ∃ t, u = Value.str x t from r); cases e; rfl
  | byt b => obtain ⟨t, e⟩ := (show ∃ t, u = Value.bytes b t from r); cases e; rfl
  | flt b => obtain ⟨t, e⟩ := (show ∃ t, u = Value.float b t from r); cases e; rfl
  | ref a => cases (show u = Value.ref a from r); rfl
  | ty n => cases (show u = Value.type n from r); rfl

section
variable {P : Program} {w : World} {H H' : Hp} {h h' : Heap} {a C dx : Addr} {fs fs' : List (Str × V)}
theorem ins_get (hok : HOk P w H h) (e : H a = some (.ins C dx fs)) : ∃ mA, ObjM h a dx C mA ∧ (∀ f, RelO (fs.lookup f) (mA f)) ∧ PySem.Within mA (fs.map (·.1)) ∧ fs.length ≤ 1000 ∧ H dx = some (.own a) := by
  obtain ⟨d, z, ne, ob, mA, n, r, q⟩ := (show ObjOk P w H h a (.ins C dx fs) from hok a _ e)
  exact ⟨mA, ⟨ob, n, ne⟩, r, q, z, d⟩
end

/-! ### what of the text a class must have -/
structure Cls (K : PySem.W.Frag) (C : Addr) : Prop where
  pg : PySem.W.plainGet K C Str.empty = true
  hd : PySem.W.hasDictIn K C = true
  po : PySem.W.plainOver K C = true
  sa : PySem.W.findIn K (.ref C) "__setattr__" = some (some (.builtin "object.__setattr__"))
theorem Cls.get {K : PySem.W.Frag} {C : Addr} (c : Cls K C) (f : Str) : PySem.W.plainGet K C f = true := c.pg
/-- no class of it has the name -/
def NoAttr (K : PySem.W.Frag) (C : Addr) (f : Str) : Prop := PySem.W.findIn K (.ref C) f = some none
theorem NoAttr.taker {K : PySem.W.Frag} {C : Addr} {f : Str} (n : NoAttr K C f) : PySem.W.takerIn K C f = some none := by
  unfold PySem.W.takerIn
  rw [show PySem.W.findIn K (.ref C) f = some none from n]
  rfl
/-- a method: a plain def of the class or of one above it -/
structure Meth (K : PySem.W.Frag) (C : Addr) (m : Str) (f : Addr) : Prop where
  at_ : PySem.W.findIn K (.ref C) m = some (some (.ref f))
  fn : PySem.W.isFn K (.ref f) = true
  kp : PySem.W.keepIn K (.ref f) = true

section
variable {X : Cx} {pins : List (Addr × Obj)} {σ : St} {H : Hp} {s : Shared} {a C dx : Addr} {fs : List (Str × V)} {f : Str} {v : V} {A : Around} {E : Value → Shared → Prop}

theorem getattr_ok {b : Bool} {Q : Value → Shared → Prop} (I : Inv X pins σ H s) (e : H a = some (.ins C dx fs)) (c : Cls X.K C) (n : NoAttr X.K C f) (l : fs.lookup f = some v)
    (h : ∀ u s', Inv X pins σ H s' → RelV v u → Q u s') : wpAny (model X.prog X.w) A (getAttr (.ref a) f b) Q E s := by
  obtain ⟨mA, O, r, _, _, _⟩ := ins_get I.hok e
  obtain ⟨u, hu, ru⟩ := RelO.some_of (v := v) (o := mA f) (by rw [← l]; exact r f)
  exact get_map I.kIn O (c.get f) c.hd n hu (handed_of ru) (h u _ (I.tok _) ru)

theorem getmeth_ok {m : Str} {g : Addr} {pl : Sem Bool} {Q : Value × List Value → Shared → Prop} (I : Inv X pins σ H s) (e : H a = some (.ins C dx fs)) (c : Cls X.K C) (k : Meth X.K C m g) (l : fs.lookup m = none)
    (h : Q (.ref g, [.ref a]) s) : wpAny (model X.prog X.w) A (getMethod (.ref a) m pl) Q E s := by
  obtain ⟨mA, O, r, _, _, _⟩ := ins_get I.hok e
  have hn : mA m = none := RelO.none_of (by rw [← l]; exact r m)
  exact get_meth I.kIn O (c.get m) k.at_ k.fn hn h

theorem setattr_ok {y : V} {u : Value} {Q : Unit → Shared → Prop} (I : Inv X pins σ H s) (e : H a = some (.ins C dx fs)) (c : Cls X.K C) (n : NoAttr X.K C f) (hl : fs.length < 1000) (ry : RelV y u)
    (h : ∀ s', Inv X pins σ (upd H a (.ins C dx (putF f y fs))) s' → Q () s') : wpAny (model X.prog X.w) A (setAttr (.ref a) f u) Q E s := by
  obtain ⟨mA, O, r, wi, _, ho⟩ := ins_get I.hok e
  have hz : (fs.map (·.1)).length ≤ sizeLine := by rw [List.length_map, sizeLine_eq]; omega
  refine set_map I.kIn O c.sa c.po n.taker c.hd wi hz fun h' O' sb => h _ ?_
  have hd : ∃ o, h'.get? dx = some o := let ⟨o, _, _, e', _⟩ := O'.ns; ⟨o, e'⟩
  refine I.write (x := a) (e := dx) (by rw [e]; exact True.intro) (.inr ho) (fun b q hb z => (sb.2 b hb).trans z) hd ?_
  refine ⟨by rw [upd_ne O.ne]; exact ho, ?_, O.ne, O'.obj, _, O'.ns, fun g => ?_, fun g hg => ?_⟩
  · have := length_putF f y fs; omega
  · show RelO ((putF f y fs).lookup g) (if g = f then some u else mA g)
    rw [lookup_putF]
    by_cases q : g = f
    · rw [if_pos q, if_pos q]; exact ry
    · rw [if_neg q, if_neg q]; exact r g
  · by_cases q : g = f
    · rw [q]; exact (keys_putF f y fs).1
    · refine (keys_putF f y fs).2 g (wi g fun z => hg ?_)
      show (if g = f then some u else mA g) = none
      rw [if_neg q]; exact z

/-- a new instance, tracked, without attributes -/
theorem Inv.made (I : Inv X pins σ H s) : Inv X pins σ (upd (upd H s.heap.objs.size (.own (s.heap.objs.size + 1))) (s.heap.objs.size + 1) (.ins C s.heap.objs.size []))
    { s with heap := (s.heap.push PySem.W.emptyDict).push (PySem.W.instObj C s.heap.objs.size) } := by
  have e1 : (s.heap.push PySem.W.emptyDict).get? s.heap.objs.size = some PySem.W.emptyDict := Heap.get?_push_size s.heap rfl
  have e2 : ((s.heap.push PySem.W.emptyDict).push (PySem.W.instObj C s.heap.objs.size)).get? (s.heap.objs.size + 1) = some (PySem.W.instObj C s.heap.objs.size) := by
    have := Heap.get?_push_size (s.heap.push PySem.W.emptyDict) (o := PySem.W.instObj C s.heap.objs.size) rfl
    rwa [Heap.size_push] at this
  have e3 : (s.heap.push PySem.W.emptyDict).Ns s.heap.objs.size (fun _ => none) := ⟨PySem.W.emptyDict, #[], _, e1, rfl, (fun e he => absurd he (by simp)), fun _ => rfl⟩
  have I1 := I.laid (a := s.heap.objs.size) (o := .own (s.heap.objs.size + 1)) (h' := s.heap.push PySem.W.emptyDict) (t' := s.toks) (fun b u q => Heap.get?_push_of_some _ q) (Nat.le_refl _) ⟨_, e1⟩
  refine I1.laid (a := s.heap.objs.size + 1) (o := .ins C s.heap.objs.size []) (t' := s.toks) (fun b u q => Heap.get?_push_of_some _ q) (Nat.le_of_eq (Heap.size_push _ _)) ?_
  have ne : s.heap.objs.size ≠ s.heap.objs.size + 1 := Nat.ne_of_lt (Nat.lt_succ_self _)
  refine ⟨by rw [upd_ne ne, upd_same], Nat.zero_le _, ne, e2, fun _ => none, (Heap.Ns1.of_empty e3).at fun o q => Heap.get?_push_of_some _ q, fun _ => True.intro, fun y hy => absurd rfl hy⟩

/-- e.f where nothing but the object is asked: through attributeBase (super) and the last hold -/
theorem attr_of {prog : Program} {w : World} {env : Env} {e : Expr} {f : Str} {pos : Pos} {s : Shared} {Q : Value → Shared → Prop} (hb : attributeBase e f env (eval e env) = eval e env)
    (h : wpAny (model prog w) A (eval e env) (fun o s₁ => wpAny (model prog w) A (getAttr o f true) Q E s₁) E s) : wpAny (model prog w) A (eval (.Attribute e f pos) env) Q E s :=
  Attribute_any_ h (by rw [arm_eval_Attribute, hb])
end

/-! ### readings and rules -/
/-- e.f, an attribute of the instance -/
def tFld (K : PySem.W.Frag) (ta : TE) (f : Str) : TE := fun σ H Q => ta σ H fun x H1 => ∃ a C dx fs v, x = .ref a ∧ H1 a = some (.ins C dx fs) ∧ Cls K C ∧ NoAttr K C f ∧ fs.lookup f = some v ∧ Q v H1
/-- e.f = value -/
def sFld (K : PySem.W.Frag) (ta tv : TE) (f : Str) : TS := fun D σ H => tv σ H fun y H1 => ta σ H1 fun x H2 => ∃ a C dx fs, x = .ref a ∧ H2 a = some (.ins C dx fs) ∧ Cls K C ∧ NoAttr K C f ∧ fs.length < 1000 ∧
  D.nx σ (upd H2 a (.ins C dx (putF f y fs)))
/-- an augmented operator on two values -/
def InOp (X : Cx) (op : Operator) (rd : V → V → Hp → VK → Prop) : Prop :=
  ∀ (pins : List (Addr × Obj)) (s : Shared) (σ : St) (H : Hp) (x y : V) (u v : Value) (Q : VK), Inv X pins σ H s → RelV x u → RelV y v → rd x y H Q → wpAny (model X.prog X.w) X.A (inplaceOp op u v) (EP X pins σ Q) X.xe s
/-- e.f op= value -/
def sFldAug (K : PySem.W.Frag) (ta tv : TE) (rd : V → V → Hp → VK → Prop) (f : Str) : TS := fun D σ H => ta σ H fun x H1 => ∃ a C dx fs v, x = .ref a ∧ H1 a = some (.ins C dx fs) ∧ Cls K C ∧ NoAttr K C f ∧ fs.lookup f = some v ∧
  tv σ H1 fun y H2 => rd v y H2 fun z H3 => ∃ dx' fs', H3 a = some (.ins C dx' fs') ∧ fs'.length < 1000 ∧ D.nx σ (upd H3 a (.ins C dx' (putF f z fs')))

section
variable {X : Cx} {o e value : Expr} {f : Str} {pos pos' tpos : Pos} {ta tv : TE}
theorem pe_fld (he : PE X e ta) (hb : attributeBase e f X.env (eval e X.env) = eval e X.env) : PE X (.Attribute e f pos) (tFld X.K ta f) := by
  intro pins s σ H Q I h
  refine attr_of hb (thn (he pins s σ H _ I h) fun u s1 ⟨x, H1, I1, rx, a, C, dx, fs, v, ex, ea, c, n, l, q⟩ => ?_)
  subst ex
  obtain rfl : u = Value.ref a := rx
  exact getattr_ok I1 ea c n l fun u' s2 I2 ru => ⟨v, H1, I2, ru, q⟩
theorem ps_fld (ha : PE X o ta) (hv : PE X value tv) (hs : swapsWith value (some (.Attribute o f pos')) pos.line X.env = pure false) : PS X (.Assign [.Attribute o f pos'] value pos) (sFld X.K ta tv f) := by
  intro pins s σ H D I h
  refine plainObj_wpAny_Assign_Attribute (thn (hv pins s σ H _ I h) fun u s1 ⟨y, H1, I1, ry, q⟩ => thn (ha pins s1 σ H1 _ I1 q) fun ov s2 ⟨x, H2, I2, rx, a, C, dx, fs, ex, ea, c, n, l, q2⟩ => ?_) hs
  subst ex
  obtain rfl : ov = Value.ref a := rx
  exact setattr_ok I2 ea c n l ry fun s3 I3 => ⟨σ, _, I3, q2⟩
theorem ps_fldaug {op : Operator} {rd : V → V → Hp → VK → Prop} (ha : PE X o ta) (hv : PE X value tv) (hop : InOp X op rd) : PS X (.AugAssign (.Attribute o f tpos) op value pos) (sFldAug X.K ta tv rd f) := by
  intro pins s σ H D I h
  refine wpAny_AugAssign_AttributeAny (thn (ha pins s σ H _ I h) fun ov s1 ⟨x, H1, I1, rx, a, C, dx, fs, v, ex, ea, c, n, l, q⟩ => ?_)
  subst ex
  obtain rfl : ov = Value.ref a := rx
  refine getattr_ok I1 ea c n l fun u s2 I2 ru => thn (hv pins s2 σ H1 _ I2 q) fun w3 s3 ⟨y, H2, I3, ry, q3⟩ => thn (hop pins s3 σ H2 v y u w3 _ I3 ru ry q3) fun w4 s4 ⟨z, H3, I4, rz, dx', fs', ea', l', q4⟩ => ?_
  exact setattr_ok I4 ea' c n l' rz fun s5 I5 => ⟨σ, _, I5, q4⟩
def rAdd : V → V → Hp → VK → Prop := fun x y H Q => ∃ i j, x = .int i ∧ y = .int j ∧ Q (.int (i + j)) H
theorem in_add : InOp X .Add rAdd := by
  rintro pins s σ H x y u v Q I rx ry ⟨i, j, rfl, rfl, q⟩
  obtain ⟨t, rfl⟩ := (show ∃ t, u = Value.int i t from rx)
  obtain ⟨t', rfl⟩ := (show ∃ t', v = Value.int j t' from ry)
  exact PyProof.Rows.iadd_int ⟨.int (i + j), H, I.tok _, ⟨_, rfl⟩, q⟩
end

/-! ### isinstance -/
section
variable {X : Cx} {pins : List (Addr × Obj)} {σ : St} {H : Hp} {s : Shared} {A : Around} {E : Value → Shared → Prop} {Q : Value → Shared → Prop} {c : Value} {b : Bool}
end
end L2

namespace L2
open PySem PySem.Spec PyProof.Rows

/-! ### room -/
structure Room (k : Nat) (A : Around) : Prop where
  hd : A.handled = none
  dp : A.depth + 3 * k + 5 < recursionLimit
  un : A.units + 16 * k + 200 < cLine
theorem Room.mono {j k : Nat} {A : Around} (r : Room k A) (h : j ≤ k) : Room j A := ⟨r.hd, by have := r.dp; omega, by have := r.un; omega⟩
theorem Room.deeper {k : Nat} {A : Around} (r : Room (k + 1) A) (env : Env) : Room k (A.deeper env) :=
  ⟨r.hd, by have := r.dp; show A.depth + 1 + 3 * k + 5 < _; omega, by have := r.un; show A.units + 3 + 16 * k + 200 < _; omega⟩
theorem make_depth {A : Around} {C : Addr} {us : List Value} {kw : List (Str × Value)} : (A.under (.builtin "type.__call__" ⟨.ref C :: us, kw⟩)).depth = A.depth + 1 := by
  first | rfl | simp [Around.under, Code.weight, Code.isCreation, Code.isGuard, Code.isCaller, Code.frames, Code.isFrame, guardIds]
theorem make_units {A : Around} {C : Addr} {us : List Value} {kw : List (Str × Value)} : (A.under (.builtin "type.__call__" ⟨.ref C :: us, kw⟩)).units = A.units + 1 := by
  first | rfl | simp [Around.under, Code.cUnits, Code.frames, Code.isFrame]
theorem Room.make {k : Nat} {A : Around} (r : Room (k + 1) A) (C : Addr) (us : List Value) (kw : List (Str × Value)) : Room k (A.under (.builtin "type.__call__" ⟨.ref C :: us, kw⟩)) :=
  ⟨r.hd, by have := r.dp; rw [make_depth]; omega, by have := r.un; rw [make_units]; omega⟩
theorem Room.depth {k : Nat} {A : Around} (r : Room k A) : A.depth < recursionLimit := by have := r.dp; omega
theorem Room.units {k : Nat} {A : Around} (r : Room k A) : A.units + 64 < cLine := by have := r.un; omega
/-! ### argument lists and displays -/
def tNil : TA := fun _ H Q => Q [] H
def tCons (ta : TE) (tr : TA) : TA := fun σ H Q => ta σ H fun x H1 => tr σ H1 fun xs H2 => Q (x :: xs) H2
section
variable {X : Cx} {e : Expr} {es : List Expr} {te : TE} {t : TA} {pos : Pos}
theorem pa_nil : PA X [] tNil := fun _ _ _ _ H Q I h => Calls.spliced_nil ⟨[], H, I, .nil, h⟩
theorem pa_cons (ha : PE X e te) (hr : PA X es t) (hs : starEach (e :: es) X.env = (false, eval e X.env) :: starEach es X.env := by rfl) : PA X (e :: es) (tCons te t) := by
  intro pos pins s σ H Q I h
  rw [hs]
  show wpAny _ _ (spliced ((false, eval e X.env) :: backTo pos (starEach es X.env))) _ _ s
  refine Calls.spliced_cons (thn (ha pins s σ H _ I h) fun u s1 ⟨x, H1, I1, r1, q1⟩ => ?_)
  exact thn (hr pos pins s1 σ H1 _ I1 q1) fun us s2 ⟨xs, H2, I2, r2, q2⟩ => ⟨x :: xs, H2, I2, .cons r1 r2, q2⟩

/-- a tuple, a list of written items -/
def tTup (t : TA) : TE := fun σ H Q => t σ H fun xs H1 => xs.length ≤ sizeLine ∧ ∀ p, H1 p = none → Q (.ref p) (upd H1 p (.tup xs))
def tLst (t : TA) : TE := fun σ H Q => t σ H fun xs H1 => xs.length ≤ sizeLine ∧ ∀ p, H1 p = none → Q (.ref p) (upd H1 p (.lst xs))
theorem pe_tup {x1} (h : PA X es t) : PE X (.Tuple es x1 pos) (tTup t) := by
  intro pins s σ H Q I hq
  refine wpAny_Tuple_spliced (thn (h pos pins s σ H _ I hq) fun us s1 ⟨xs, H1, I1, r, z, q⟩ => ⟨by rw [← r.length]; exact z, ?_⟩)
  have hf : H1 s1.heap.objs.size = none := I1.hok.fresh (Nat.le_refl _)
  refine ⟨.ref s1.heap.objs.size, upd H1 s1.heap.objs.size (.tup xs), I1.laid (t' := s1.toks) (fun b u e => Heap.get?_push_of_some _ e) (Nat.le_refl _) ?_, rfl, q _ hf⟩
  exact ⟨z, us, r, ⟨_, Heap.get?_push_size _ rfl, rfl, _, rfl⟩⟩
theorem pe_lst (h : PA X es t) : PE X (.List es pos) (tLst t) := by
  intro pins s σ H Q I hq
  refine wpAny_List_spliced (thn (h pos pins s σ H _ I hq) fun us s1 ⟨xs, H1, I1, r, z, q⟩ => ⟨by rw [← r.length]; exact z, ?_⟩)
  have hf : H1 s1.heap.objs.size = none := I1.hok.fresh (Nat.le_refl _)
  refine ⟨.ref s1.heap.objs.size, upd H1 s1.heap.objs.size (.lst xs), I1.laid (t' := s1.toks) (fun b u e => Heap.get?_push_of_some _ e) (Nat.le_refl _) ?_, rfl, q _ hf⟩
  exact ⟨z, us, 0, r, Heap.get?_push_size _ rfl⟩
end

/-! ### what a def promises -/
/-- a def's promise: the bound arguments in the parameters' order, the heap, the wanted end, the wanted exception -/
abbrev Sp := List V → Hp → VK → XK → Prop
/-- how an exception lies behind a call (file 08 gives it): the callers' frames, abstract heap and state ahead of the call, the wish, the exception, the state -/
abbrev CXT := List Env → Hp → Shared → XK → Value → Shared → Prop

/-- the state at a call -/
structure Env0 (P : Program) (w : World) (K : PySem.W.Frag) (mg : Str → Option Value) (base : Heap) (A : Around) (outer : List Env) (s : Shared) (H : Hp) : Prop where
  frames : A.frames = some outer
  mod : Mod K mg base
  bs : ∀ b o, base.get? b = some o → s.heap.get? b = some o ∧ H b = none
  bsz : base.objs.size ≤ s.heap.objs.size
  funs : s.heap.FunFrames base outer
  frf : ∀ b ∈ frs outer, H b = none
  hok : HOk P w H s.heap
  bare : AllBare s.gens
/-- a call's end -/
def CE (outer : List Env) (P : Program) (w : World) (H : Hp) (s : Shared) (Q : VK) (u : Value) (s' : Shared) : Prop :=
  ∃ v H', s'.os = s.os ∧ AllBare s'.gens ∧ Un (frs outer) [] H H' s.heap s'.heap ∧ HOk P w H' s'.heap ∧ RelV v u ∧ Q v H'
def CR (CX : CXT) (outer : List Env) (P : Program) (w : World) (H : Hp) (s : Shared) (Q : VK) (E : XK) (r : Result) (s' : Shared) : Prop :=
  match r with
  | .ok (.ret u) => CE outer P w H s Q u s'
  | .ok _ => False
  | .error e => CX outer H s E e s'
structure FnOk (P : Program) (w : World) (K : PySem.W.Frag) (mg : Str → Option Value) (base : Heap) (CX : CXT) (k : Nat) (f : Addr) (fd : FuncData) (ps : List Str) (sp : Sp) : Prop where
  len : ∀ vs H Q E, sp vs H Q E → vs.length = ps.length
  run : ∀ (A : Around) (outer : List Env) (s : Shared) (H : Hp) (args : Args) (us : List Value) (vs : List V) (Q : VK) (E : XK), Room k A → Env0 P w K mg base A outer s H → BindsTo s fd args (ps.zip us) → Vals vs us → sp vs H Q E →
    codeAny (model P w) A (.call (.ref f) args) (CR CX outer P w H s Q E) s
theorem Env0.make {P : Program} {w : World} {K : PySem.W.Frag} {mg : Str → Option Value} {base : Heap} {A : Around} {outer : List Env} {s : Shared} {H : Hp} (e : Env0 P w K mg base A outer s H) (C : Addr) (us : List Value) (kw : List (Str × Value)) :
    Env0 P w K mg base (A.under (.builtin "type.__call__" ⟨.ref C :: us, kw⟩)) outer s H := ⟨by first | exact e.frames | (simpa [Around.under, Code.envs, Code.isFrame, pushEnvs] using e.frames), e.mod, e.bs, e.bsz, e.funs, e.frf, e.hok, e.bare⟩
section
variable {X : Cx} {pins : List (Addr × Obj)} {σ : St} {H : Hp} {s s' : Shared}
/-- from a body: what a callee wants -/
theorem Inv.env0 (I : Inv X pins σ H s) : Env0 X.prog X.w X.K X.mg X.base X.A X.stack s H :=
  ⟨I.ok.frames, I.ok.mod, I.bs, Nat.le_trans I.ok.bsz I.sz, I.stack, I.stkFree, I.hok, I.bare⟩
/-- behind a call -/
theorem Inv.after {Q : VK} {u : Value} (I : Inv X pins σ H s) (h : CE X.stack X.prog X.w H s Q u s') : EP X pins σ Q u s' := by
  obtain ⟨v, H', os, bare, un, hok, r, q⟩ := h
  obtain ⟨hh, g, d, t, os'⟩ := s'
  obtain rfl : os' = s.os := os
  exact ⟨v, H', I.call (h' := hh) (g' := g) (d' := d) (t' := t) (ch := []) un hok bare (fun b z => absurd z (by simp)), r, q⟩
end

/-! ### calls -/
/-- f(..): the written arguments, then the defaults dvs; E: what is wanted of an exception -/
def tCall (sp : Sp) (dvs : List V) (E : XK) (t : TA) : TE := fun σ H Q => t σ H fun vs H1 => sp (vs ++ dvs) H1 Q E
/-- o.m(..) of an instance of the class at C -/
def tMeth (C : Addr) (m : Str) (sp : Sp) (dvs : List V) (E : XK) (ta : TE) (t : TA) : TE := fun σ H Q => ta σ H fun x H1 => ∃ a dx fs, x = .ref a ∧ H1 a = some (.ins C dx fs) ∧ fs.lookup m = none ∧
  t σ H1 fun vs H2 => sp (x :: (vs ++ dvs)) H2 Q E
/-- C(..): a new instance and its dict, then __init__ -/
def tMake (C : Addr) (sp : Sp) (dvs : List V) (E : XK) (t : TA) : TE := fun σ H Q => t σ H fun vs H1 => ∀ x dx, H1 x = none → H1 dx = none → dx ≠ x →
  sp (.ref x :: (vs ++ dvs)) (upd (upd H1 dx (.own x)) x (.ins C dx [])) (fun v H2 => v = .non ∧ Q (.ref x) H2) E

/-- how the parameters are bound: us the positional arguments, kw the keywords' values by name, ds the defaults that fill up -/
def Binds (K : PySem.W.Frag) (fd : FuncData) (ps : List Str) (ds : List Value) : Prop :=
  ∀ (s : Shared) (us : List Value), K.In s.heap → (us ++ ds).length = ps.length → BindsTo s fd ⟨us, []⟩ (ps.zip (us ++ ds))
/-- every parameter is given -/
theorem Binds.all {K : PySem.W.Frag} {fd : FuncData} {ps : List Str} (h : ∀ us : List Value, us.length = ps.length → bindArgs fd ⟨us, []⟩ = pure (ps.zip us)) : Binds K fd ps [] := fun s us _ hl => by
  rw [List.append_nil] at hl ⊢
  exact .of_eq (h us hl)

/-- an exception of a callee reaches what this body wants of exceptions -/
def Passes (CX : CXT) (X : Cx) (E : XK) : Prop := ∀ (pins : List (Addr × Obj)) (σ : St) (H : Hp) (s : Shared) (e : Value) (s' : Shared), Inv X pins σ H s → CX X.stack H s E e s' → X.xe e s'

section
variable {X : Cx} {CX : CXT} {k : Nat} {f C : Addr} {fd : FuncData} {ps : List Str} {sp : Sp} {dvs : List V} {ds : List Value} {E : XK} {x m : Str} {p pos apos : Pos} {e o : Expr} {es : List Expr} {ta : TE} {t : TA}

/-- the callee runs -/
theorem run_fn {pins : List (Addr × Obj)} {σ : St} {H : Hp} {s : Shared} {Q : VK} {us : List Value} {vs : List V} (F : FnOk X.prog X.w X.K X.mg X.base CX k f fd ps sp) (hr : Room k X.A) (hb : Binds X.K fd ps ds) (hd : Vals dvs ds) (hx : Passes CX X E)
    (I : Inv X pins σ H s) (r : Vals vs us) (h : sp (vs ++ dvs) H Q E) : wpAny (model X.prog X.w) X.A (call (.ref f) us) (EP X pins σ Q) X.xe s := by
  have r2 : Vals (vs ++ dvs) (us ++ ds) := r.append hd
  have hl : (us ++ ds).length = ps.length := by rw [← r2.length]; exact F.len _ _ _ _ h
  refine wpAny_call (codeAny_mono (F.run X.A X.stack s H ⟨us, []⟩ (us ++ ds) (vs ++ dvs) Q E hr I.env0 (hb s us I.kIn hl) r2 h) fun r s' hq => ?_)
  cases r with
  | error e => exact hx pins σ H s e s' I hq
  | ok fl =>
    cases fl with
    | ret u => exact I.after hq
    | next => exact False.elim hq
    | brk => exact False.elim hq
    | cont => exact False.elim hq

theorem pe_call (F : FnOk X.prog X.w X.K X.mg X.base CX k f fd ps sp) (hr : Room k X.A) (hg : Gl X x) (hm : X.mg x = some (.ref f)) (hk : PySem.W.keepIn X.K (.ref f) = true) (hb : Binds X.K fd ps ds) (hd : Vals dvs ds) (hx : Passes CX X E)
    (ha : PA X (e :: es) t) (hdb : (x == ("__debug__" : Str)) = false := by decide) (he : starEach (e :: es) X.env = (false, eval e X.env) :: starEach es X.env := by rfl) (hpl : (backTo pos (starEach es X.env)).any (·.1) = false := by rfl) :
    PE X (.Call (.Name x p) (e :: es) [] pos) (tCall sp dvs E t) := by
  intro pins s σ H Q I h
  refine wpAny_Call_Name_kw (ld_glob I hg hm ?_ hdb)
  refine PySem.W.callWith_K (h₀ := X.base) I.ok.mod.kin hk (thn (ha pos pins s σ H _ I h) fun us s1 ⟨vs, H1, I1, r, q⟩ => ⟨I1.kIn, ?_⟩) he hpl
  exact run_fn F hr hb hd hx I1 r q
/-- o.m(e, ..) -/
theorem pe_meth {pl : Sem Bool} (he : PE X o ta) (c : Cls X.K C) (hm : Meth X.K C m f) (F : FnOk X.prog X.w X.K X.mg X.base CX k f fd ps sp) (hr : Room k X.A) (hb : Binds X.K fd ps ds) (hd : Vals dvs ds) (hx : Passes CX X E) (ha : PA X (e :: es) t)
    (hst : starEach (e :: es) X.env = (false, eval e X.env) :: starEach es X.env := by rfl) (hpl : (backTo pos (starEach es X.env)).any (·.1) = false := by rfl)
    (ht : eval (.Call (.Attribute o m apos) (e :: es) [] pos) X.env = (do
      let ov ← eval o X.env
      standAt apos.atName
      let (f, first) ← holding [ov] (getMethod ov m pl)
      callWith pos f first (backTo pos (starEach (e :: es) X.env)) (backToKw pos (keywordEach [] X.env))) := by rfl) :
    PE X (.Call (.Attribute o m apos) (e :: es) [] pos) (tMeth C m sp dvs E ta t) := by
  intro pins s σ H Q I h
  refine PySem.W.methodCall_KW (pl := pl) (thn (he pins s σ H _ I h) fun u s1 ⟨x, H1, I1, rx, a, dx, fs, ex, ea, l, q⟩ => ?_) ht
  subst ex
  obtain rfl : u = Value.ref a := rx
  refine getmeth_ok I1 ea c hm l ?_
  refine PySem.W.callWith_K (first := [.ref a]) (h₀ := X.base) I.ok.mod.kin hm.kp (thn (ha pos pins s1 σ H1 _ I1 q) fun us s2 ⟨vs, H2, I2, r, q2⟩ => ⟨I2.kIn, ?_⟩) hst hpl
  exact run_fn (us := .ref a :: us) (vs := .ref a :: vs) F hr hb hd hx I2 (.cons rfl r) q2
/-- o.m() -/
theorem pe_meth0 {pl : Sem Bool} (he : PE X o ta) (c : Cls X.K C) (hm : Meth X.K C m f) (F : FnOk X.prog X.w X.K X.mg X.base CX k f fd ps sp) (hr : Room k X.A) (hb : Binds X.K fd ps ds) (hd : Vals dvs ds) (hx : Passes CX X E)
    (ht : eval (.Call (.Attribute o m apos) [] [] pos) X.env = (do
      let ov ← eval o X.env
      standAt apos.atName
      let (f, first) ← holding [ov] (getMethod ov m pl)
      callWith pos f first (backTo pos (starEach [] X.env)) (backToKw pos (keywordEach [] X.env))) := by rfl) :
    PE X (.Call (.Attribute o m apos) [] [] pos) (tMeth C m sp dvs E ta tNil) := by
  intro pins s σ H Q I h
  refine PySem.W.methodCall_KW (pl := pl) (thn (he pins s σ H _ I h) fun u s1 ⟨x, H1, I1, rx, a, dx, fs, ex, ea, l, q⟩ => ?_) ht
  subst ex
  obtain rfl : u = Value.ref a := rx
  refine getmeth_ok I1 ea c hm l ?_
  exact PySem.W.callWith_K0 (first := [.ref a]) I1.kIn hm.kp (run_fn (us := [.ref a]) (vs := [.ref a]) F hr hb hd hx I1 (.cons rfl .nil) q)

/-- what a class must have to be made -/
structure Mk (K : PySem.W.Frag) (C f : Addr) : Prop where
  makes : PySem.W.makesIn K C = true
  init : PySem.W.findIn K (.ref C) "__init__" = some (some (.ref f))
  fn : PySem.W.isFn K (.ref f) = true
  kp : PySem.W.keepIn K (.ref C) = true

theorem run_make {pins : List (Addr × Obj)} {σ : St} {H : Hp} {s : Shared} {Q : VK} {us : List Value} {vs : List V} (M : Mk X.K C f) (F : FnOk X.prog X.w X.K X.mg X.base CX k f fd ps sp) (hr : Room (k + 1) X.A) (hb : Binds X.K fd ps ds) (hd : Vals dvs ds)
    (hx : Passes CX X E) (I : Inv X pins σ H s) (r : Vals vs us)
    (h : ∀ x dx, H x = none → H dx = none → dx ≠ x → sp (.ref x :: (vs ++ dvs)) (upd (upd H dx (.own x)) x (.ins C dx [])) (fun v H2 => v = .non ∧ Q (.ref x) H2) E) :
    wpAny (model X.prog X.w) X.A (call (.ref C) us) (EP X pins σ Q) X.xe s := by
  have hq := h (s.heap.objs.size + 1) s.heap.objs.size (I.hok.fresh (Nat.le_succ _)) (I.hok.fresh (Nat.le_refl _)) (Nat.ne_of_lt (Nat.lt_succ_self _))
  have I2 := Inv.made (C := C) I
  have r2 : Vals (V.ref (s.heap.objs.size + 1) :: (vs ++ dvs)) (Value.ref (s.heap.objs.size + 1) :: (us ++ ds)) := .cons rfl (r.append hd)
  have hl : (Value.ref (s.heap.objs.size + 1) :: us ++ ds).length = ps.length := by
    have e := r2.length
    rw [F.len _ _ _ _ hq] at e
    exact e.symm
  refine wpAny_call (make_map (f := f) I.kIn M.makes M.init (beq_iff_eq.mp M.fn) (codeAny_mono (F.run _ X.stack _ _ ⟨Value.ref (s.heap.objs.size + 1) :: us, []⟩ (Value.ref (s.heap.objs.size + 1) :: (us ++ ds)) _ _ E (hr.make C us [])
    (I2.env0.make C us []) (hb _ (Value.ref (s.heap.objs.size + 1) :: us) I2.kIn hl) r2 hq) fun r s' hq' => ?_))
  cases r with
  | error e => exact hx pins σ _ _ e s' I2 hq'
  | ok fl =>
    cases fl with
    | ret u =>
      obtain ⟨v, H', I3, rv, ev, q3⟩ := I2.after hq'
      subst ev
      exact ⟨rv, ⟨V.ref (s.heap.objs.size + 1), H', I3, rfl, q3⟩⟩
    | next => exact False.elim hq'
    | brk => exact False.elim hq'
    | cont => exact False.elim hq'
theorem pe_make (M : Mk X.K C f) (F : FnOk X.prog X.w X.K X.mg X.base CX k f fd ps sp) (hr : Room (k + 1) X.A) (hg : Gl X x) (hm : X.mg x = some (.ref C)) (hb : Binds X.K fd ps ds) (hd : Vals dvs ds) (hx : Passes CX X E)
    (ha : PA X (e :: es) t) (hdb : (x == ("__debug__" : Str)) = false := by decide) (he : starEach (e :: es) X.env = (false, eval e X.env) :: starEach es X.env := by rfl) (hpl : (backTo pos (starEach es X.env)).any (·.1) = false := by rfl) :
    PE X (.Call (.Name x p) (e :: es) [] pos) (tMake C sp dvs E t) := by
  intro pins s σ H Q I h
  refine wpAny_Call_Name_kw (ld_glob I hg hm ?_ hdb)
  refine PySem.W.callWith_K (h₀ := X.base) I.ok.mod.kin M.kp (thn (ha pos pins s σ H _ I h) fun us s1 ⟨vs, H1, I1, r, q⟩ => ⟨I1.kIn, ?_⟩) he hpl
  exact run_make M F hr hb hd hx I1 r q
end

/-! ### keywords -/
/-- the values of the keywords, from the left -/
def PK (X : Cx) (kws : List Keyword) (t : TA) : Prop :=
  ∀ (pos : Pos) (pins : List (Addr × Obj)) (s : Shared) (σ : St) (H : Hp) (Q : List V → Hp → Prop), Inv X pins σ H s → t σ H Q → wpAny (model X.prog X.w) X.A (evalAll ((backToKw pos (keywordEach kws X.env)).map (·.2))) (AP X pins σ Q) X.xe s
section
variable {X : Cx} {CX : CXT} {k : Nat} {f C : Addr} {fd : FuncData} {ps ks : List Str} {sp : Sp} {E : XK} {x m : Str} {p pos apos kpos : Pos} {e o : Expr} {es : List Expr} {kws : List Keyword} {te ta : TE} {t tk : TA} {nm : Option Str}
theorem pk_nil : PK X [] tNil := fun _ _ _ _ H Q I h => wpAny_evalAll_nil ⟨[], H, I, .nil, h⟩
theorem pk_cons (ha : PE X e te) (hr : PK X kws t) : PK X (⟨nm, e, kpos⟩ :: kws) (tCons te t) := by
  intro pos pins s σ H Q I h
  show wpAny _ _ (evalAll ((do let v ← eval e X.env; standAt pos; pure v) :: (backToKw pos (keywordEach kws X.env)).map (·.2))) _ _ s
  refine wpAny_evalAll_cons (wpAny_bind (thn (ha pins s σ H _ I h) fun u s1 ⟨x, H1, I1, r1, q1⟩ => wpAny_bind (wpAny_standAt (wpAny_pure ?_))))
  exact thn (hr pos pins s1 σ H1 _ I1 q1) fun us s2 ⟨xs, H2, I2, r2, q2⟩ => ⟨x :: xs, H2, I2, .cons r1 r2, q2⟩

variable {g : List Value → List Value → List Value} {gV : List V → List V → List V}
end

/-! ### a def's body keeps its promise -/
/-- names: the parameters first -/
structure FnScope (N P : List Str) (sc : Scope) : Prop where
  kind : sc.kind = .function
  co : sc.isCoroutine = false
  gen : sc.isGenerator = false
  nd : N.Nodup
  pre : N.take P.length = P
  par : ∀ x ∈ P, sc.names.lookup x = some .local ∨ sc.names.lookup x = some .cell
  nofree : ∀ y ∈ sc.names, y.2 ≠ .free

theorem bindL_out {kindOf : Str → Option NameKind} {x : Str} : ∀ {binds : List (Str × Value)} {m : Str → Option Value}, (∀ v, (x, v) ∉ binds) → bindL kindOf binds m x = m x
  | [], _, _ => rfl
  | (n, v) :: r, m, h => by
    unfold bindL
    rw [bindL_out fun w hw => h w (List.mem_cons_of_mem _ hw)]
    split
    · have : x ≠ n := by rintro rfl; exact h v List.mem_cons_self
      simp [this]
    · rfl
theorem bindC_out {kindOf : Str → Option NameKind} {x : Str} : ∀ {binds : List (Str × Value)} {m : Str → Option Value}, (∀ v, (x, v) ∉ binds) → bindC kindOf binds m x = m x
  | [], _, _ => rfl
  | (n, v) :: r, m, h => by
    unfold bindC
    rw [bindC_out fun w hw => h w (List.mem_cons_of_mem _ hw)]
    split
    · rfl
    · have : x ≠ n := by rintro rfl; exact h v List.mem_cons_self
      simp [this]
theorem bindL_get {kindOf : Str → Option NameKind} {x : Str} {v : Value} : ∀ {P : List Str} {vs : List Value} {i : Nat} {m : Str → Option Value}, P.Nodup → P[i]? = some x → vs[i]? = some v → kindOf x = some .local →
    bindL kindOf (P.zip vs) m x = some v
  | [], _, _, _, _, h, _, _ => by simp at h
  | _ :: _, [], _, _, _, _, h, _ => by simp at h
  | p :: P, w :: vs, 0, m, nd, h1, h2, hk => by
    simp at h1 h2; subst h1; subst h2
    show bindL kindOf ((p, w) :: P.zip vs) m p = _
    unfold bindL
    rw [bindL_out fun v hv => (List.nodup_cons.mp nd).1 (List.of_mem_zip hv).1, if_pos hk]
    simp
  | p :: P, w :: vs, i + 1, m, nd, h1, h2, hk => by
    show bindL kindOf ((p, w) :: P.zip vs) m x = _
    unfold bindL
    exact bindL_get (i := i) (List.nodup_cons.mp nd).2 (by simpa using h1) (by simpa using h2) hk
theorem bindC_get {kindOf : Str → Option NameKind} {x : Str} {v : Value} : ∀ {P : List Str} {vs : List Value} {i : Nat} {m : Str → Option Value}, P.Nodup → P[i]? = some x → vs[i]? = some v → kindOf x ≠ some .local →
    bindC kindOf (P.zip vs) m x = some v
  | [], _, _, _, _, h, _, _ => by simp at h
  | _ :: _, [], _, _, _, _, h, _ => by simp at h
  | p :: P, w :: vs, 0, m, nd, h1, h2, hk => by
    simp at h1 h2; subst h1; subst h2
    show bindC kindOf ((p, w) :: P.zip vs) m p = _
    unfold bindC
    rw [bindC_out fun v hv => (List.nodup_cons.mp nd).1 (List.of_mem_zip hv).1, if_neg hk]
    simp
  | p :: P, w :: vs, i + 1, m, nd, h1, h2, hk => by
    show bindC kindOf ((p, w) :: P.zip vs) m x = _
    unfold bindC
    exact bindC_get (i := i) (List.nodup_cons.mp nd).2 (by simpa using h1) (by simpa using h2) hk

/-- the names' values at the entry -/
def start (N : List Str) (vs : List V) : St := vs.map some ++ List.replicate (N.length - vs.length) none

/-- the context of a def's body, at its entry; an exception leaves the frame, then lies as CX says -/
def cxOf (CX : CXT) (P : Program) (w : World) (K : PySem.W.Frag) (mg : Str → Option Value) (base : Heap) (N : List Str) (qual : Str) (scope : Scope) (f : Addr) (cd : Value) (A : Around) (outer : List Env) (s : Shared) (H : Hp) (E : XK) : Cx where
  prog := P
  w := w
  K := K
  mg := mg
  base := base
  A := A.deeper (envOfC qual scope s.heap.objs.size f cd)
  N := N
  s_0 := s
  H_0 := H
  env := envOfC qual scope s.heap.objs.size f cd
  outer := outer
  stack := envOfC qual scope s.heap.objs.size f cd :: outer
  ex := []
  calm := true
  fn := fun _ => true
  pn := []
  xe := fun e s' => wpAny (model P w) (A.deeper (envOfC qual scope s.heap.objs.size f cd)) (leaving (envOfC qual scope s.heap.objs.size f cd) e) (fun _ s'' => CX outer H s E e s'') (fun e' s'' => CX outer H s E e' s'') s'

theorem cell_has {sc : Scope} {n : Nat} {x : Str} (h : sc.names.lookup x = some .cell) : ∃ c, (cellsFrom n sc.names []).lookup x = some c := by
  have q := PySem.W.cellsFrom_some sc.names n [] (.inl h)
  exact Option.isSome_iff_exists.mp q

theorem inv_start {CX : CXT} {P : Program} {w : World} {K : PySem.W.Frag} {mg : Str → Option Value} {base : Heap} {N ps : List Str} {qual : Str} {scope : Scope} {f : Addr} {cd : Value} {A : Around} {outer : List Env} {s s1 : Shared} {H : Hp} {E : XK} {us : List Value} {vs : List V}
    (S : FnScope N ps scope) (hd : A.handled = none) (e0 : Env0 P w K mg base A outer s H) (hl : vs.length = ps.length) (r : Vals vs us)
    (x : InCallC s s.heap.objs.size (bindL (envOfC qual scope s.heap.objs.size f cd).kindOf (ps.zip us) fun _ => none) (cellsFrom (s.heap.objs.size + 1) scope.names []) (bindC (envOfC qual scope s.heap.objs.size f cd).kindOf (ps.zip us) fun _ => none) s1) :
    Inv (cxOf CX P w K mg base N qual scope f cd A outer s H E) [] (start N vs) H s1 := by
  have hpl : ps.length ≤ N.length := by have := congrArg List.length S.pre; rw [List.length_take] at this; omega
  obtain ⟨h1, tk, rfl, hk⟩ := x.done
  have noA : ∀ b : Addr, b ∉ (cxOf CX P w K mg base N qual scope f cd A outer s H E).ex := fun b z => absurd (show b ∈ ([] : List Addr) from z) (by simp)
  refine ⟨⟨e0.mod, S.kind, rfl, rfl, Nat.le_refl _, fun y z c h1 h2 => ?_, fun y hy => ?_, fun y c _ h => ?_, fun _ => hd, Around.frames_deeper e0.frames, .inr ⟨rfl, rfl⟩, fun b z => absurd z (noA b), e0.bs, e0.bsz, fun b _ _ => noA b, fun b z => absurd z (noA b), e0.funs, e0.frf⟩,
    rfl, e0.bare, Un.kept hk, ⟨_, x.toInCall.ns, fun i y v h1 h2 h3 => ?_⟩, fun y c h => ⟨_, x.cell y c h⟩, e0.hok.fresh (Nat.le_refl _), fun y c h => ?_, fun p hp => absurd (show p ∈ ([] : List (Addr × Obj)) from hp) (by simp), e0.hok.kept hk, ?_⟩
  · exact name_of_addr x.apart (PySem.mem_of_lookup h1) (PySem.mem_of_lookup h2)
  · have hy : scope.names.lookup y = some .cell ∨ scope.names.lookup y = some .free := hy
    rcases hy with hy | hy
    · exact cell_has hy
    · exact absurd rfl (S.nofree _ (PySem.mem_of_lookup hy))
  · exact Nat.le_of_lt (x.above y c (PySem.mem_of_lookup h))
  · have hi : i < vs.length := by
      unfold start at h2
      by_cases hi : i < vs.length
      · exact hi
      · rw [List.getElem?_append_right (by simpa using hi)] at h2
        rw [List.getElem?_replicate] at h2
        split at h2 <;> cases h2
    have ha : vs[i]? = some v := by
      unfold start at h2
      rw [List.getElem?_append_left (by simpa using hi), List.getElem?_map] at h2
      cases e : vs[i]? with
      | none => rw [e] at h2; cases h2
      | some a => rw [e] at h2; cases h2; rfl
    obtain ⟨u, hu, rv⟩ := r.get ha
    have hp : ps[i]? = some y := by
      rw [← S.pre, List.getElem?_take_of_lt (by omega)]; exact h1
    have ndP : ps.Nodup := by rw [← S.pre]; exact S.nd.sublist (List.take_sublist _ _)
    refine ⟨u, rv, ?_⟩
    rcases S.par y (List.mem_of_getElem? hp) with k | k
    · exact .inl ⟨k, bindL_get ndP hp hu k⟩
    · obtain ⟨c, e⟩ := cell_has (n := s.heap.objs.size + 1) k
      refine .inr ⟨.inl k, c, e, ?_⟩
      have q := x.cell y c e
      rw [bindC_get ndP hp hu (by show scope.names.lookup y ≠ _; rw [k]; decide)] at q
      exact q
  · exact e0.hok.fresh (Nat.le_of_lt (x.above y c (PySem.mem_of_lookup h)))
  · unfold start
    show _ = N.length
    rw [List.length_append, List.length_map, List.length_replicate]
    omega

/-- THE RULE: a def (or a method) of the text, by its body. The body's reading t is chosen for each entry; it is run at the parameters' values -/
theorem fn_of {CX : CXT} {P : Program} {w : World} {K : PySem.W.Frag} {mg : Str → Option Value} {base : Heap} {k : Nat} {f : Addr} {name qual : Str} {params : Arguments} {body : List Stmt} {scope : Scope} {dV kV doc pm cdv ct oc : Value} {an od : Option Addr}
    {osl : Array (Option Value)} {N ps : List Str} {sp : Sp} (lk : K.lookup f = some ⟨oc, od, .func (PySem.W.fnOf name qual params body scope dV kV doc pm an cdv ct), osl⟩) (hcd : PySem.W.codeIn K cdv qual = true) (S : FnScope N ps scope)
    (len : ∀ vs H Q E, sp vs H Q E → vs.length = ps.length)
    (hbody : ∀ (A : Around) (outer : List Env) (s : Shared) (H : Hp) (vs : List V) (Q : VK) (E : XK), Room k (A.deeper (envOfC qual scope s.heap.objs.size f cdv)) → sp vs H Q E →
      ∃ t, PSs (cxOf CX P w K mg base N qual scope f cdv A outer s H E) body t ∧ t { nx := fun _ H' => Q .non H', rt := Q } (start N vs) H) :
    FnOk P w K mg base CX (k + 1) f (PySem.W.fnOf name qual params body scope dV kV doc pm an cdv ct) ps sp := by
  refine ⟨len, fun A outer s H args us vs Q E hr e0 hb r hsp => ?_⟩
  have hl := len _ _ _ _ hsp
  have KX : K.In s.heap := e0.mod.kin.keeps fun b o e => (e0.bs b o e).1
  have lim : s.heap.NoLimit := e0.mod.nolimit.keeps fun b o e => (e0.bs b o e).1
  have hkind : ∀ y ∈ ps.zip us, scope.names.lookup y.1 = some .local ∨ (scope.names.lookup y.1 = some .cell ∧ ((cellsFrom (s.heap.objs.size + 1) scope.names []).lookup y.1).isSome = true) := fun ⟨n, v⟩ hy => by
    rcases S.par n (List.of_mem_zip hy).1 with q | q
    · exact .inl q
    · exact .inr ⟨q, PySem.W.cellsFrom_some _ _ _ (.inl q)⟩
  refine codeAny_call_function hr.depth (KX _ _ lk) rfl S.co S.gen rfl (PySem.W.codeRec_of KX hcd) (hb _ _ _ _ ?_)
  refine wpAny_newFunctionEnv_cells S.kind hkind fun env he s1 x => ?_
  subst he
  refine ⟨lim.keeps x.toInCall.keep, codeAny_func ?_⟩
  obtain ⟨t, ht, hq⟩ := hbody A outer s H vs Q E (hr.deeper _) hsp
  have I : Inv (cxOf CX P w K mg base N qual scope f cdv A outer s H E) [] (start N vs) H s1 := inv_start S hr.hd e0 hl r x
  refine wpAny_mono (ht [] s1 (start N vs) H _ I hq) (fun fl s' hs => ?_) fun e s' hs => hs
  have fin : ∀ {σ' : St} {H' : Hp} {v : V} {u : Value}, Inv (cxOf CX P w K mg base N qual scope f cdv A outer s H E) [] σ' H' s' → RelV v u → Q v H' → CE outer P w H s Q u s' :=
    fun {σ' H' v u} J rv q => ⟨v, H', J.os, J.bare, J.base, J.hok, rv, q⟩
  cases fl with
  | ret u =>
    obtain ⟨v, σ', H', J, rv, q⟩ := hs
    exact fin J rv q
  | next =>
    obtain ⟨σ', H', J, q⟩ := hs
    exact fin (v := V.non) (u := Value.none) J rfl q
  | brk =>
    obtain ⟨_, _, _, q⟩ := hs
    exact False.elim q
  | cont =>
    obtain ⟨_, _, _, q⟩ := hs
    exact False.elim q
end L2

namespace L2
open PySem PySem.Spec PyProof.Rows
section
variable {X : Cx} {x : Str} {p pos : Pos} {e : Expr} {es : List Expr} {t : TA} {id T : String} {r : List V → Hp → VK → Prop}

def tCB (r : List V → Hp → VK → Prop) (t : TA) : TE := fun σ H Q => t σ H fun vs H1 => r vs H1 Q
/-- f(e, ..), f a built-in function -/
theorem pe_callB (hc : CallR X (.builtin id) r) (hg : Gl X x) (hm : X.mg x = none) (hv : bootBuiltins x = some (.builtin id)) (ha : PA X (e :: es) t) (hn : x ≠ "__name__" := by decide) (hdb : (x == ("__debug__" : Str)) = false := by decide)
    (he : starEach (e :: es) X.env = (false, eval e X.env) :: starEach es X.env := by rfl) (hpl : (backTo pos (starEach es X.env)).any (·.1) = false := by rfl) : PE X (.Call (.Name x p) (e :: es) [] pos) (tCB r t) := by
  intro pins s σ H Q I h
  refine wpAny_Call_Name_kw (ld_blt I hg hm hv ?_ hn hdb)
  exact PyProof.Rows.callWith_builtin1 (thn (ha pos pins s σ H _ I h) fun us s1 ⟨vs, H1, I1, r1, q1⟩ => hc pins s1 σ H1 vs us Q I1 r1 q1) he hpl
/-- T(e, ..), T a built-in type -/
theorem pe_callTy (hc : CallR X (.type T) r) (hg : Gl X x) (hm : X.mg x = none) (hv : bootBuiltins x = some (.type T)) (ha : PA X (e :: es) t) (hn : x ≠ "__name__" := by decide) (hdb : (x == ("__debug__" : Str)) = false := by decide)
    (he : starEach (e :: es) X.env = (false, eval e X.env) :: starEach es X.env := by rfl) (hpl : (backTo pos (starEach es X.env)).any (·.1) = false := by rfl) : PE X (.Call (.Name x p) (e :: es) [] pos) (tCB r t) := by
  intro pins s σ H Q I h
  refine wpAny_Call_Name_kw (ld_blt I hg hm hv ?_ hn hdb)
  exact PyProof.Rows.callWith_type1 (thn (ha pos pins s σ H _ I h) fun us s1 ⟨vs, H1, I1, r1, q1⟩ => hc pins s1 σ H1 vs us Q I1 r1 q1) he hpl
end
end L2

namespace HT
open PySem PyProof.Rows

/-- t < u of tuples of ints -/
def lexLt : List Int → List Int → Bool
  | [], [] => false
  | [], _ :: _ => true
  | _ :: _, [] => false
  | x :: xs, y :: ys => if x = y then lexLt xs ys else decide (x < y)
theorem lexLt_cons (x y : Int) (xs ys : List Int) : lexLt (x :: xs) (y :: ys) = if x = y then lexLt xs ys else decide (x < y) := rfl
theorem lexLt_nil_nil : lexLt [] [] = false := rfl
theorem lexLt_nil_cons (y : Int) (ys : List Int) : lexLt [] (y :: ys) = true := rfl
theorem lexLt_cons_nil (x : Int) (xs : List Int) : lexLt (x :: xs) [] = false := rfl

theorem eqAt_int (A : Around) (s : Shared) (a : Int) (t : Tok) (c : Int) (u : Tok) : ∃ e, SeqAt.EqAt A s (.int a t) (.int c u) e ∧ (e = true ↔ a = c) :=
  ⟨(a == c), SeqAt.EqAt.int_int a t c u, by simp⟩
theorem rcLt_int (A : Around) (s : Shared) (a : Int) (t : Tok) (c : Int) (u : Tok) (prog : Program) (w : World) (E : Value → Shared → Prop) (Q : Value → Shared → Prop) (h : Q (.bool (decide (a < c))) s) :
    wpAny (model prog w) A (richCompare .Lt (.int a t) (.int c u)) Q E s :=
  (PyProof.Rows.lt_int h : wpAny (model prog w) A (compareOp .Lt (.int a t) (.int c u)) Q E s)

section
open PySem.SeqAt
open PySem.AutoSeq1 (wpAny_loadPart')
open PySem.MeetsSeq PySem.MeetsSeq2 PySem.MeetsSeq3

theorem tuple_lt_ints (l b : Addr) (items items2 : Array Value) (n n2 : Nat) (dd dd2 : Option Addr) (sl sl2 : Array (Option Value)) (ns ms : List Int) (hi : IntsAre items.toList ns) (hj : IntsAre items2.toList ms) :
    Meets (Builtin.«tuple.__lt__» ⟨[.ref l, .ref b], []⟩)
      (fun _ R s => s.heap.get? l = some { cls := .type "tuple", dict := dd, data := .seq items n, slots := sl } ∧ s.heap.get? b = some { cls := .type "tuple", dict := dd2, data := .seq items2 n2, slots := sl2 } ∧
        R (.ok (.ret (.bool (lexLt ns ms)))) s) :=
  .of_wp fun prog w A R s h => by
    obtain ⟨hp, g, d, tk, os⟩ := s; obtain ⟨hl, hb, h⟩ := h
    have f2 := AutoSeq1.sub_tuple_tuple
    have z1 : items.size = ns.length := by rw [← hi.length]; simp
    have z2 : items2.size = ms.length := by rw [← hj.length]; simp
    wp_walk using wpAny_loadPart' hl, wpAny_loadPart' hb, wpAny_forIn_list _ (fun rest b s' => b.1 = none ∧ s' = ⟨hp, g, d, tk, os⟩ ∧ ∃ (vs ws : List Value) (ns' ms' : List Int), rest = vs.zip ws ∧
      IntsAre vs ns' ∧ IntsAre ws ms' ∧ ns'.length + items2.size = ms'.length + items.size ∧ R (.ok (.ret (.bool (lexLt ns' ms')))) ⟨hp, g, d, tk, os⟩) _
    case turn =>
      rintro ⟨y, x⟩ rest b s' ⟨hb', rfl, vs, ws, ns', ms', hz, hvi, hwi, hlen, hR⟩
      cases hvi with
      | nil => rw [List.zip_nil_left] at hz; cases hz
      | cons a t hvi' =>
        cases hwi with
        | nil => rw [List.zip_nil_right] at hz; cases hz
        | cons c u hwi' =>
          rw [List.zip_cons_cons] at hz
          injection hz with hyx hrest
          injection hyx with hy hx
          subst hy hx
          rw [lexLt_cons] at hR
          simp only [List.length_cons] at hlen
          obtain ⟨e, he, hiff⟩ := eqAt_int A.in1 ⟨hp, g, d, tk, os⟩ a t c u
          refine wpAny_bind (he prog w _ _ ?_)
          cases e with
          | true =>
            rw [if_pos (hiff.mp rfl)] at hR
            wp_walk
            exact ⟨rfl, rfl, _, _, _, _, hrest, hvi', hwi', by omega, hR⟩
          | false =>
            rw [if_neg (fun q => absurd (hiff.mpr q) Bool.false_ne_true)] at hR
            have hri := rcLt_int A.in1 ⟨hp, g, d, tk, os⟩ a t c u prog w
            wp_walk using hri
            exact ⟨_, rfl, by simpa using hR⟩
    case fin =>
      rintro ⟨b1, b2⟩ s' ⟨hb', rfl, vs, ws, ns', ms', hz, hvi, hwi, hlen, hR⟩
      simp only at hb'
      subst hb'
      have hv : lexLt ns' ms' = decide (items.size < items2.size) := by
        cases hvi with
        | nil =>
          cases hwi with
          | nil =>
            simp only [List.length_nil] at hlen
            rw [lexLt_nil_nil]
            exact (decide_eq_false (by omega)).symm
          | cons c u hw =>
            simp only [List.length_nil, List.length_cons] at hlen
            rw [lexLt_nil_cons]
            exact (decide_eq_true (by omega)).symm
        | cons a t hv =>
          cases hwi with
          | nil =>
            simp only [List.length_nil, List.length_cons] at hlen
            rw [lexLt_cons_nil]
            exact (decide_eq_false (by omega)).symm
          | cons c u hw =>
            rw [List.zip_cons_cons] at hz
            cases hz
      rw [hv] at hR
      wp_walk
      exact ⟨_, rfl, by simpa [Builtin.Tuple.tupleCompareSizes] using hR⟩
    case h =>
      exact ⟨rfl, rfl, items.toList, items2.toList, ns, ms, rfl, hi, hj, by omega, h⟩
end

section
variable {prog : Program} {w : World} {A : Around} {E : Value → Shared → Prop} {s : Shared}

theorem lt_tupInts {l b : Addr} {items items2 : Array Value} {ns ms : List Int} {Q : Value → Shared → Prop} (hl : IsTup s.heap l items) (hb : IsTup s.heap b items2) (hi : IntsAre items.toList ns) (hj : IntsAre items2.toList ms)
    (hu : A.units < cLine) (h : Q (.bool (lexLt ns ms)) s) : wpAny (model prog w) A (compareOp .Lt (.ref l) (.ref b)) Q E s := by
  obtain ⟨⟨cls, dd, data, sl⟩, ho, hc, n, hd⟩ := id hl
  obtain ⟨⟨cls2, dd2, data2, sl2⟩, ho2, hc2, n2, hd2⟩ := id hb
  simp only at hc hd hc2 hd2
  subst hc hd hc2 hd2
  exact richCompare_meets_room (op := .Lt) ⟨_, ho, rfl⟩ ⟨_, ho2, rfl⟩ PySem.F.slot_tuple_lt PySem.F.entry_tuple_lt (PySem.F.args_tuple_lt_2 _ _) (tuple_lt_ints l b items items2 n n2 dd dd2 sl sl2 ns ms hi hj)
    ⟨ho, ho2, show Value.bool (lexLt ns ms) ≠ Value.notImplemented ∧ Q (.bool (lexLt ns ms)) s from ⟨(fun x => nomatch x), h⟩⟩ hu

/-- t + u, t not empty -/
theorem cat_tup {t b : Addr} {vs ws : List Value} {Q : Value → Shared → Prop} (ht : IsTup s.heap t vs.toArray) (hb : IsTup s.heap b ws.toArray) (hv : vs ≠ [])
    (h1 : ws = [] → Q (.ref t) s) (h2 : ws ≠ [] → Q (.ref s.heap.objs.size) { s with heap := s.heap.push { cls := .type "tuple", data := .seq (vs ++ ws).toArray } })
    (hsz : vs.length + ws.length ≤ sizeLine) : wpAny (model prog w) A (binaryOp .Add (.ref t) (.ref b)) Q E s := by
  obtain ⟨⟨cls, dd, data, sl⟩, ho, hc, n, hd⟩ := id ht
  obtain ⟨⟨cls2, dd2, data2, sl2⟩, ho2, hc2, n2, hd2⟩ := id hb
  simp only at hc hd hc2 hd2
  subst hc hd hc2 hd2
  have e : vs.toArray ++ ws.toArray = (vs ++ ws).toArray := by simp
  by_cases hw : ws = []
  · exact concat_meets ⟨_, ho, rfl⟩ ⟨_, ho2, rfl⟩ noFill_tuple_add seq_tuple_add PySem.F.slot_tuple_add PySem.F.entry_tuple_add (PySem.F.args_tuple_add_2 _ _)
      (tuple_addW1 t b vs.toArray ws.toArray n n2 dd dd2 sl sl2 (by simpa using hv) (by simp [hw])) ⟨ho, ho2, h1 hw⟩
  · refine concat_meets ⟨_, ho, rfl⟩ ⟨_, ho2, rfl⟩ noFill_tuple_add seq_tuple_add PySem.F.slot_tuple_add PySem.F.entry_tuple_add (PySem.F.args_tuple_add_2 _ _)
      (tuple_addW2 t b vs.toArray ws.toArray n n2 dd dd2 sl sl2 (by simpa using hv) (by simpa using hw) (by rw [List.size_toArray, List.size_toArray]; exact hsz)) ⟨ho, ho2, ?_⟩
    rw [e]
    exact h2 hw

/-! ### t[a:b], not the whole -/
end
end HT

namespace L2
open PySem PySem.Spec PyProof.Rows

/-! ### the parts of a slice -/
theorem intsAre_of {ns : List Int} : ∀ {us : List Value}, Vals (ns.map V.int) us → IntsAre us ns := by
  induction ns with
  | nil => intro us r; rw [List.map_nil] at r; cases r; exact .nil
  | cons n ns ih =>
    intro us r
    rw [List.map_cons] at r
    cases r with
    | cons r1 r2 =>
      obtain ⟨t, e⟩ := r1
      subst e
      exact .cons n t (ih r2)

section
variable {X : Cx} {e : Expr} {te : TE} {lo hi : Option Expr} {tl th : TO} {pos p2 : Pos}

/-! ### t < u, t + u -/
/-- t + u, t not empty: u empty gives t itself -/
def rCatT (K : PySem.W.Frag) : R2 := fun x y H Q => ∃ a b xs ys, x = .ref a ∧ y = .ref b ∧ SqT K H a xs ∧ SqT K H b ys ∧ xs ≠ [] ∧ xs.length + ys.length ≤ sizeLine ∧
  (ys = [] → Q (.ref a) H) ∧ (ys ≠ [] → ∀ p, H p = none → Q (.ref p) (upd H p (.tup (xs ++ ys))))
theorem Vals.nil_iff {xs : List V} {us : List Value} (r : Vals xs us) : us = [] ↔ xs = [] := by
  cases r with
  | nil => simp
  | cons _ _ => simp
theorem op_catT : OpR X (binaryOp .Add) (rCatT X.K) := by
  intro pins s σ H x y v u Q I rx ry h
  obtain ⟨a, b, xs, ys, rfl, rfl, ha, hb, hx, hz, q1, q2⟩ := h
  cases rx
  cases ry
  obtain ⟨its, r1, p1, _⟩ := I.tuple ha
  obtain ⟨its2, r2, p2, _⟩ := I.tuple hb
  refine HT.cat_tup p1 p2 (fun z => hx (r1.nil_iff.mp z)) (fun z => ⟨.ref a, H, I, rfl, q1 (r2.nil_iff.mp z)⟩) (fun z => ?_) (by rw [← r1.length, ← r2.length]; exact hz)
  refine ⟨.ref s.heap.objs.size, _, I.laid (t' := s.toks) (o := .tup (xs ++ ys)) (fun b ob q => Heap.get?_push_of_some _ q) (Nat.le_refl _) ?_, rfl, q2 (fun w => z (r2.nil_iff.mpr w)) _ (I.hok.fresh (Nat.le_refl _))⟩
  exact ⟨by rw [List.length_append]; exact hz, _, r1.append r2, IsTup.new _ _⟩
end
end L2

namespace L2
open PySem PySem.Spec PyProof.Rows

/-! ### places -/
/-- the place that an index of any sign means -/
def ixN (n : Nat) (i : Int) : Option Nat := if 0 ≤ i then (if i < n then some i.toNat else none) else if -(n : Int) ≤ i then some (i + n).toNat else none
def atI {α : Type} (xs : List α) (i : Int) : Option α := (ixN xs.length i).bind fun j => xs[j]?
theorem ixN_seq {n : Nat} {i : Int} {j : Nat} (h : ixN n i = some j) : seqIndex? i n = some j ∧ j < n ∧ -(n : Int) ≤ i ∧ i < n := by
  unfold ixN at h
  by_cases h0 : 0 ≤ i
  · rw [if_pos h0] at h
    by_cases h1 : i < n
    · rw [if_pos h1] at h
      have e : i.toNat = j := Option.some.inj h
      exact ⟨by rw [seqIndex_of h0 h1, e], by omega, by omega, h1⟩
    · rw [if_neg h1] at h; cases h
  · rw [if_neg h0] at h
    by_cases h1 : -(n : Int) ≤ i
    · rw [if_pos h1] at h
      have e : (i + n).toNat = j := Option.some.inj h
      exact ⟨by rw [seqIndex_neg (by omega) h1, e], by omega, h1, by omega⟩
    · rw [if_neg h1] at h; cases h
theorem atI_get {α : Type} {xs : List α} {i : Int} {v : α} (h : atI xs i = some v) : ∃ j, seqIndex? i xs.length = some j ∧ xs[j]? = some v ∧ j < xs.length ∧ -(xs.length : Int) ≤ i ∧ i < xs.length := by
  unfold atI at h
  cases e : ixN xs.length i with
  | none => rw [e] at h; cases h
  | some j =>
    rw [e] at h
    obtain ⟨h1, h2, h3, h4⟩ := ixN_seq e
    exact ⟨j, h1, h, h2, h3, h4⟩
theorem atI_nat {α : Type} {xs : List α} {j : Nat} {v : α} (h : xs[j]? = some v) : atI xs (j : Int) = some v := by
  have hj : j < xs.length := (List.getElem?_eq_some_iff.mp h).1
  have e : ixN xs.length (j : Int) = some j := by
    unfold ixN
    rw [if_pos (by omega), if_pos (by omega)]; simp
  unfold atI; rw [e]; exact h
/-! ### what may be subscripted -/
/-- what stands as an index of a plain subscript -/
def PlainIx (b : Expr) : Prop := ∀ o i, subscripted b false o i = operate [o, i] (getItem o i)
/-- a subscript by values -/
def IxR (X : Cx) (r : R2) : Prop :=
  ∀ (value slice : Expr) (pins : List (Addr × Obj)) (s : Shared) (σ : St) (H : Hp) (x y : V) (v u : Value) (Q : VK), Inv X pins σ H s → RelV x v → RelV y u → r x y H Q →
    subscripted slice false v u = operate [v, u] (getItem v u) → wpAny (model X.prog X.w) X.A (subscriptTail value slice v u) (EP X pins σ Q) X.xe s
/-- a call of a builtin's method by values: the receiver, the arguments -/
def MtR (X : Cx) (id : String) (r : V → List V → Hp → VK → Prop) : Prop :=
  ∀ (pins : List (Addr × Obj)) (s : Shared) (σ : St) (H : Hp) (x : V) (xs : List V) (v : Value) (us : List Value) (Q : VK), Inv X pins σ H s → RelV x v → Vals xs us → r x xs H Q →
    wpAny (model X.prog X.w) X.A (call (.builtin id) (v :: us)) (EP X pins σ Q) X.xe s
section
variable {X : Cx} {a b : Expr} {ta tb : TE} {pos : Pos}
/-- a[b] -/
theorem pe_ix {r : R2} (hr : IxR X r) (ha : PE X a ta) (hb : PE X b tb) (hs : PlainIx b) : PE X (.Subscript a b pos) (tOp r ta tb) := by
  intro pins s σ H Q I h
  exact Subscript_ (binT ha hb I h fun v u s2 x y H2 I2 rx ry q => hr a b pins s2 σ H2 x y v u Q I2 rx ry q (hs _ _))

def rIxL (K : PySem.W.Frag) : R2 := fun x y H Q => ∃ p xs i v, x = .ref p ∧ y = .int i ∧ SqL K H p xs ∧ atI xs i = some v ∧ Q v H
def rIxT (K : PySem.W.Frag) : R2 := fun x y H Q => ∃ p xs i v, x = .ref p ∧ y = .int i ∧ SqT K H p xs ∧ atI xs i = some v ∧ Q v H
theorem ix_list : IxR X (rIxL X.K) := by
  intro value slice pins s σ H x y v u Q I rx ry h hs
  obtain ⟨p, xs, i, z, rfl, rfl, hq, he, q⟩ := h
  cases rx
  obtain ⟨t, rfl⟩ := ry
  obtain ⟨its, r, pl, hz⟩ := I.list hq
  obtain ⟨j, h1, h2, h3, h4, h5⟩ := atI_get he
  obtain ⟨w, ew, rw'⟩ := r.get h2
  have hl := r.length
  have hn := line63
  have fin : EP X pins σ Q w s := ⟨z, H, I, rw', q⟩
  by_cases h0 : 0 ≤ i
  · have hj : i.toNat = j := by
      rw [seqIndex_of h0 h5] at h1
      exact Option.some.inj h1
    exact item_listR pl.isList h0 (by omega) (by rw [hj]; simpa using ew) fin hs
  · have hj : (i + (its.toArray.size : Int)).toNat = j := by
      rw [seqIndex_neg (by omega) h4] at h1
      rw [List.size_toArray, ← hl]
      exact Option.some.inj h1
    exact subscriptTail_builtinR (x := w) pl.isList.typeIs slot_list_getitem.lookup
      (wpAny_getItem_list_neg (Q := fun r s' => r = w ∧ EP X pins σ Q r s') pl.isList (by omega) (by rw [List.size_toArray] <;> omega) (by omega) (by rw [hj]; simpa using ew) ⟨rfl, fin⟩) hs
theorem ix_tup : IxR X (rIxT X.K) := by
  intro value slice pins s σ H x y v u Q I rx ry h hs
  obtain ⟨p, xs, i, z, rfl, rfl, hq, he, q⟩ := h
  cases rx
  obtain ⟨t, rfl⟩ := ry
  obtain ⟨its, r, pl, hz⟩ := I.tuple hq
  obtain ⟨j, h1, h2, h3, h4, h5⟩ := atI_get he
  obtain ⟨w, ew, rw'⟩ := r.get h2
  have hl := r.length
  have hn := line63
  have fin : EP X pins σ Q w s := ⟨z, H, I, rw', q⟩
  exact subscriptTail_builtinR (x := w) pl.typeIs slot_tuple_getitem.lookup
    (getItem_tuple (j := j) (Q := fun r s' => r = w ∧ EP X pins σ Q r s') pl (by omega) (by omega) (by rw [List.size_toArray, ← hl]; exact h1) (by simpa using ew) ⟨rfl, fin⟩) hs
/-! ### xs[i] = v, any sign -/
/-! ### slices -/
/-! ### in, not in: flat items -/
def flatV : V → Bool
  | .non => true
  | .bl _ => true
  | .int _ => true
  | .str _ => true
  | _ => false
/-- == of flat values -/
def eqV : V → V → Bool
  | .non, .non => true
  | .bl a, .bl b => a == b
  | .bl a, .int b => (if a then 1 else 0) == b
  | .int a, .bl b => a == (if b then 1 else 0)
  | .int a, .int b => a == b
  | .str a, .str b => a == b
  | _, _ => false
theorem eqAt_V {A : Around} {s : Shared} {y x : V} {u v : Value} (ry : RelV y u) (rx : RelV x v) (fy : flatV y = true) (fx : flatV x = true) : SeqAt.EqAt A s u v (eqV y x) := by
  cases y with
  | non =>
    cases ry
    cases x with
    | non => cases rx; exact SeqAt.EqAt.same _
    | bl b => cases rx; exact SeqAt.EqAt.none_bool b
    | int b => obtain ⟨t, rfl⟩ := rx; exact SeqAt.EqAt.none_int b t
    | str b => obtain ⟨t, rfl⟩ := rx; exact SeqAt.EqAt.none_str b t
    | _ => exact absurd (show false = true from fx) Bool.false_ne_true
  | bl a =>
    cases ry
    cases x with
    | non => cases rx; exact SeqAt.EqAt.bool_none a
    | bl b => cases rx; exact SeqAt.EqAt.bool_bool a b
    | int b => obtain ⟨t, rfl⟩ := rx; exact SeqAt.EqAt.bool_int a b t
    | str b => obtain ⟨t, rfl⟩ := rx; exact SeqAt.EqAt.bool_str a b t
    | _ => exact absurd (show false = true from fx) Bool.false_ne_true
  | int a =>
    obtain ⟨t', rfl⟩ := ry
    cases x with
    | non => cases rx; exact SeqAt.EqAt.int_none a t'
    | bl b => cases rx; exact SeqAt.EqAt.int_bool a t' b
    | int b => obtain ⟨t, rfl⟩ := rx; exact SeqAt.EqAt.int_int a t' b t
    | str b => obtain ⟨t, rfl⟩ := rx; exact SeqAt.EqAt.int_str a t' b t
    | _ => exact absurd (show false = true from fx) Bool.false_ne_true
  | str a =>
    obtain ⟨t', rfl⟩ := ry
    cases x with
    | non => cases rx; exact SeqAt.EqAt.str_none a t'
    | bl b => cases rx; exact SeqAt.EqAt.str_bool a t' b
    | int b => obtain ⟨t, rfl⟩ := rx; exact SeqAt.EqAt.str_int a t' b t
    | str b => obtain ⟨t, rfl⟩ := rx; exact SeqAt.EqAt.str_str a t' b t
    | _ => exact absurd (show false = true from fx) Bool.false_ne_true
  | _ => exact absurd (show false = true from fy) Bool.false_ne_true
/-- the items' answers, read off the values (a value's own answer does not lean on its token) -/
def eqU (x : V) (u : Value) : Bool := match u with
  | .none => eqV .non x
  | .bool b => eqV (.bl b) x
  | .int i _ => eqV (.int i) x
  | .str z _ => eqV (.str z) x
  | _ => false
theorem eqU_of {x y : V} {u : Value} (r : RelV y u) (f : flatV y = true) : eqU x u = eqV y x := by
  cases y with
  | non => cases r; rfl
  | bl b => cases r; rfl
  | int i => obtain ⟨t, rfl⟩ := r; rfl
  | str z => obtain ⟨t, rfl⟩ := r; rfl
  | _ => exact absurd (show false = true from f) Bool.false_ne_true
theorem any_eqU {x : V} : ∀ {xs : List V} {us : List Value}, Vals xs us → xs.all flatV = true → us.any (eqU x) = xs.any fun y => eqV y x
  | _, _, .nil, _ => rfl
  | y :: xs, u :: us, .cons r t, f => by
    rw [List.all_cons, Bool.and_eq_true] at f
    rw [List.any_cons, List.any_cons, eqU_of r f.1, any_eqU t f.2]
theorem mem_eqAt {A : Around} {s : Shared} {x : V} {v : Value} (rx : RelV x v) (fx : flatV x = true) : ∀ {xs : List V} {us : List Value}, Vals xs us → xs.all flatV = true → ∀ u ∈ us, SeqAt.EqAt A s u v (eqU x u)
  | _, _, .nil, _ => fun u hu => by cases hu
  | y :: xs, u :: us, .cons r t, f => fun u' hu => by
    rw [List.all_cons, Bool.and_eq_true] at f
    rcases List.mem_cons.mp hu with rfl | hu
    · rw [eqU_of r f.1]; exact eqAt_V r rx f.1 fx
    · exact mem_eqAt rx fx t f.2 u' hu
def inV (x : V) (xs : List V) : Bool := xs.any fun y => eqV y x
/-- x in a list or tuple of flat items -/
def rIn (K : PySem.W.Frag) (neg : Bool) : R2 := fun x y H Q => ∃ p xs, y = .ref p ∧ (SqL K H p xs ∨ SqT K H p xs) ∧ flatV x = true ∧ xs.all flatV = true ∧ Q (.bl (if neg then !inV x xs else inV x xs)) H
theorem op_in_seq : OpR X (compareOp .In) (rIn X.K false) := by
  intro pins s σ H x y v u Q I rx ry h
  obtain ⟨p, xs, rfl, hq, fx, fs, q⟩ := h
  cases ry
  rcases hq with hq | hq
  · obtain ⟨its, r, pl, hz⟩ := I.list hq
    refine SeqAt.in_listAt (eqU x) pl.isList (fun w hw => mem_eqAt rx fx r fs w (by simpa using hw)) ⟨.bl _, H, I, rfl, ?_⟩
    rw [show its.toArray.any (eqU x) = its.any (eqU x) by simp, any_eqU r fs]
    exact q
  · obtain ⟨its, r, pl, hz⟩ := I.tuple hq
    refine SeqAt.in_tupleAt (eqU x) pl (fun w hw => mem_eqAt rx fx r fs w (by simpa using hw)) ⟨.bl _, H, I, rfl, ?_⟩
    rw [show its.toArray.any (eqU x) = its.any (eqU x) by simp, any_eqU r fs]
    exact q
theorem op_notIn_seq : OpR X (compareOp .NotIn) (rIn X.K true) := by
  intro pins s σ H x y v u Q I rx ry h
  obtain ⟨p, xs, rfl, hq, fx, fs, q⟩ := h
  cases ry
  rcases hq with hq | hq
  · obtain ⟨its, r, pl, hz⟩ := I.list hq
    refine SeqAt.notIn_listAt (eqU x) pl.isList (fun w hw => mem_eqAt rx fx r fs w (by simpa using hw)) ⟨.bl _, H, I, rfl, ?_⟩
    rw [show its.toArray.any (eqU x) = its.any (eqU x) by simp, any_eqU r fs]
    exact q
  · obtain ⟨its, r, pl, hz⟩ := I.tuple hq
    refine SeqAt.notIn_tupleAt (eqU x) pl (fun w hw => mem_eqAt rx fx r fs w (by simpa using hw)) ⟨.bl _, H, I, rfl, ?_⟩
    rw [show its.toArray.any (eqU x) = its.any (eqU x) by simp, any_eqU r fs]
    exact q
/-! ### len, list(x), tuple(x) of any list or tuple that is read -/
theorem call_len_seq : CallR X (.builtin "len") (fun xs H Q => ∃ p ys, xs = [.ref p] ∧ (SqL X.K H p ys ∨ SqT X.K H p ys) ∧ Q (.int ys.length) H) := by
  intro pins s σ H xs us Q I r h
  obtain ⟨p, ys, rfl, hq, q⟩ := h
  obtain ⟨u, rfl, rx⟩ := vals1 r
  cases rx
  have hn := line63
  rcases hq with hq | hq
  · obtain ⟨its, r', pl, hz⟩ := I.list hq
    have hlen := r'.length
    exact Calls.call_len_list pl.isList (by simp only [List.size_toArray] <;> omega) ⟨.int ys.length, H, I.tok _, ⟨s.toks + 1, by rw [List.size_toArray, hlen]⟩, q⟩
  · obtain ⟨its, r', pl, hz⟩ := I.tuple hq
    have hlen := r'.length
    exact len_tuple pl (by simp only [List.size_toArray] <;> omega) ⟨.int ys.length, H, I.tok _, ⟨s.toks + 1, by rw [List.size_toArray, hlen]⟩, q⟩
theorem call_tuple_of : CallR X (.type "tuple") (fun xs H Q => ∃ p ys, xs = [.ref p] ∧ ((SqL X.K H p ys ∧ ∀ l, H l = none → Q (.ref l) (upd H l (.tup ys))) ∨ (SqT X.K H p ys ∧ Q (.ref p) H))) := by
  intro pins s σ H xs us Q I r h
  obtain ⟨p, ys, rfl, h⟩ := h
  obtain ⟨u, rfl, rx⟩ := vals1 r
  cases rx
  rcases h with ⟨hq, q⟩ | ⟨hq, q⟩
  · obtain ⟨its, r', pl, hz⟩ := I.list hq
    have hlen := r'.length
    refine call_tuple_list pl.isList (fun h' kp => ?_) (by simp only [List.size_toArray] <;> omega)
    have I1 : Inv X pins σ H { s with heap := h' } := I.kept (t' := s.toks) kp
    have I2 : Inv X pins σ (upd H h'.objs.size (.tup ys)) { s with heap := h'.push { cls := .type "tuple", data := .seq its.toArray } } :=
      I1.laid (t' := s.toks) (fun b o e => Heap.get?_push_of_some _ e) (Nat.le_refl _) (show ObjOk X.prog X.w _ _ _ (.tup ys) from ⟨hz, its, r', IsTup.new _ _⟩)
    exact ⟨.ref h'.objs.size, _, I2, rfl, q _ (I1.hok.fresh (Nat.le_refl _))⟩
  · obtain ⟨its, r', pl, hz⟩ := I.tuple hq
    exact call_tuple_same pl ⟨.ref p, H, I, rfl, q⟩

/-! ### the call of a builtin's method: o.m(..) -/
/-- the value is of that builtin type -/
def tyV (K : PySem.W.Frag) (T : String) (x : V) (H : Hp) : Prop := match x with
  | .str _ => T = "str"
  | .int _ => T = "int"
  | .ref p => (T = "list" ∧ ∃ xs, SqL K H p xs) ∨ (T = "tuple" ∧ ∃ o, K.lookup p = some o ∧ o.cls = .type "tuple" ∧ o.dict = none) ∨
      (T = "dict" ∧ ((∃ kvs, H p = some (.dK kvs)) ∨ ∃ kvs, H p = some (.dT kvs))) ∨ (T = "set" ∧ ∃ S n, H p = some (.set S n))
  | _ => False
theorem tyV_is {pins : List (Addr × Obj)} {σ : St} {H : Hp} {s : Shared} {T : String} {x : V} {v : Value} (I : Inv X pins σ H s) (r : RelV x v) (ty : tyV X.K T x H) :
    s.TypeIs v T ∧ ∀ a, v = .ref a → ∃ ob, s.heap.get? a = some ob ∧ ob.dict = none := by
  cases x with
  | str z =>
    obtain ⟨t, rfl⟩ := r
    cases (show T = "str" from ty)
    exact ⟨typeIs_str s z t, fun _ e => nomatch e⟩
  | int i =>
    obtain ⟨t, rfl⟩ := r
    cases (show T = "int" from ty)
    exact ⟨typeIs_int s i t, fun _ e => nomatch e⟩
  | ref p =>
    cases r
    rcases ty with ⟨rfl, xs, hq⟩ | ⟨rfl, o, hk, hc, hd⟩ | ⟨rfl, hk⟩ | ⟨rfl, S, n, hk⟩
    · obtain ⟨its, _, pl, _⟩ := I.list hq
      refine ⟨pl.isList.typeIs, fun a e => ?_⟩
      cases e
      obtain ⟨o, n, e, c, hd, _⟩ := pl
      exact ⟨o, e, hd⟩
    · refine ⟨⟨o, I.kIn p o hk, hc⟩, fun a e => ?_⟩
      cases e
      exact ⟨o, I.kIn _ o hk, hd⟩
    · have z : ∃ o, s.heap.get? p = some o ∧ o.ExactDict := by
        rcases hk with ⟨kvs, hk⟩ | ⟨kvs, hk⟩
        · obtain ⟨_, _, _, _, o, _, _, e, ex, _⟩ := I.hok p _ hk
          exact ⟨o, e, ex⟩
        · obtain ⟨_, _, _, _, o, _, _, e, ex, _⟩ := I.hok p _ hk
          exact ⟨o, e, ex⟩
      obtain ⟨o, e, ex⟩ := z
      refine ⟨⟨o, e, ex.1⟩, fun a e2 => ?_⟩
      cases e2
      exact ⟨o, e, ex.2.1⟩
    · obtain ⟨o, _, _, _, e, ex, _⟩ := I.hok p _ hk
      refine ⟨⟨o, e, ex.1⟩, fun a e2 => ?_⟩
      cases e2
      exact ⟨o, e, ex.2.1⟩
  | _ => exact False.elim ty
def tBM (K : PySem.W.Frag) (T : String) (r : V → List V → Hp → VK → Prop) (to : TE) (t : TA) : TE := fun σ H Q => to σ H fun x H1 => tyV K T x H1 ∧ t σ H1 fun xs H2 => r x xs H2 Q
variable {o e : Expr} {es : List Expr} {to : TE} {t : TA} {name : Str} {apos cpos : Pos} {T id : String} {r : V → List V → Hp → VK → Prop}
theorem pe_bm (pa : PlainAttrs T) (slot : Slot T name id) (hty : typeOf (.builtin id) = pure (.type "method_descriptor")) (hm : MtR X id r) (ho : PE X o to) (ha : PA X (e :: es) t)
    (hbase : attributeBase o name X.env (eval o X.env) = eval o X.env := by rfl)
    (hfew : ((backTo cpos (starEach (e :: es) X.env)).all (fun x => !x.1) && (backToKw cpos (keywordEach [] X.env)).all (fun x => x.1.isSome)
      && decide ((e :: es).length + ([] : List Keyword).length + (if ([] : List Keyword).isEmpty then 0 else 1) < 30)) = true := by rfl)
    (hline : (apos.endLine == cpos.line) = true := by rfl) (hs : starEach (e :: es) X.env = (false, eval e X.env) :: starEach es X.env := by rfl) (hplain : (backTo cpos (starEach es X.env)).any (·.1) = false := by rfl) :
    PE X (.Call (.Attribute o name apos) (e :: es) [] cpos) (tBM X.K T r to t) := by
  intro pins s σ H Q I h
  refine wpAny_Call_method_late hbase hfew hline rfl (thn (ho pins s σ H _ I h) fun v s1 ⟨x, H1, I1, r1, ty, q1⟩ => ?_)
  obtain ⟨h1, h2⟩ := tyV_is I1 r1 ty
  refine ⟨T, id, pa, slot, hty, h1, h2, ?_⟩
  have hA := ha cpos pins s1 σ H1 _ I1 q1
  rw [hs] at hA ⊢
  refine Calls.callWith_builtin (by show (false || (backTo cpos (starEach es X.env)).any (·.1)) = false; rw [hplain] <;> rfl) (Calls.evalArgs_plain ?_)
  exact thn hA fun us s2 ⟨vs, H2, I2, r2, q2⟩ => hm pins s2 σ H2 x vs v us Q I2 r1 r2 q2
/- xs.append(e), list.index on a module's tuple .. are MtR facts of 06m -/
end
end L2

namespace L2
open PySem PySem.Spec PyProof.Rows

def MtM (X : Cx) (id : String) (r : V → List V → Hp → VK → Prop) : Prop :=
  ∀ (pins : List (Addr × Obj)) (s : Shared) (σ : St) (H : Hp) (x : V) (xs : List V) (v : Value) (us : List Value) (Q : VK), Inv X pins σ H s → RelV x v → Vals xs us → r x xs H Q →
    wpAny (model X.prog X.w) X.A (call (.builtin id) (v :: us)) (EP X pins σ Q) X.xe s

/-! ### lists of values -/
theorem Vals.one : ∀ {x : V} {us : List Value}, Vals [x] us → ∃ u, us = [u] ∧ RelV x u
  | _, _, .cons r .nil => ⟨_, rfl, r⟩
section
variable {X : Cx} {pins : List (Addr × Obj)} {σ : St} {H : Hp} {s : Shared} {l b : Addr} {xs ys zs : List V}

/-! ### the two steps: a tracked list is rewritten, a new list is laid -/
theorem Inv.lset {its its' : List Value} {n : Nat} {f : Array Value → Array Value} {t' : Nat} (I : Inv X pins σ H s) (hH : H l = some (.lst xs))
    (e : s.heap.get? l = some { cls := .type "list", data := .seq its.toArray n }) (hf : f its.toArray = its'.toArray) (hv : Vals ys its') (hz : ys.length ≤ sizeLine) :
    Inv X pins σ (upd H l (.lst ys)) { s with heap := s.heap.update l (Obj.mapSeq f), toks := t' } := by
  have q := PySem.IsL.update e f
  rw [hf] at q
  refine I.write (x := l) (e := l) (by rw [hH]; exact trivial) (.inl rfl) (fun b' u hb hu => (Heap.get?_update_other s.heap (Obj.mapSeq f) (Ne.symm hb)).trans hu) ⟨_, q⟩ ?_
  exact ⟨hz, its', _, hv, q⟩
theorem Inv.lnew {its : List Value} {t' : Nat} (I : Inv X pins σ H s) (hv : Vals ys its) (hz : ys.length ≤ sizeLine) :
    Inv X pins σ (upd H s.heap.objs.size (.lst ys)) { s with heap := s.heap.push { cls := .type "list", data := .seq its.toArray }, toks := t' } :=
  I.laid (fun _ _ q => Heap.get?_push_of_some _ q) (Nat.le_refl _) ⟨hz, its, 0, hv, Heap.get?_push_size _ rfl⟩
theorem Inv.fresh (I : Inv X pins σ H s) : H s.heap.objs.size = none := I.hok.fresh (Nat.le_refl _)
theorem Inv.lstM (I : Inv X pins σ H s) (hH : H l = some (.lst xs)) : xs.length ≤ sizeLine ∧ ∃ (its : List Value) (n : Nat), Vals xs its ∧ xs.length = its.length ∧ s.heap.get? l = some { cls := .type "list", data := .seq its.toArray n } := by
  obtain ⟨z, its, n, r, e⟩ := I.hok l _ hH
  exact ⟨z, its, n, r, r.length, e⟩

end

section
variable {X : Cx}

/-! ### methods -/
def rAppend : V → List V → Hp → VK → Prop := fun x vs H Q => ∃ l xs y, x = .ref l ∧ vs = [y] ∧ H l = some (.lst xs) ∧ xs.length < sizeLine ∧ Q .non (upd H l (.lst (xs ++ [y])))
theorem mt_append : MtM X "list.append" rAppend := by
  intro pins s σ H x vs v us Q I rx rv h
  obtain ⟨l, xs, y, rfl, rfl, hH, hz, q⟩ := h
  cases rx
  obtain ⟨u, rfl, ru⟩ := rv.one
  obtain ⟨z, its, n, r, hl, e⟩ := I.lstM hH
  refine call_meets F.slot_list_append ⟨_, e, rfl⟩ F.entry_list_append (F.args_list_append_2 _ _) (PySem.list_append l its.toArray n u (by rw [List.size_toArray]; omega)) ⟨e, ?_⟩
  refine ⟨.non, _, I.lset (its' := its ++ [u]) hH e (by simp) (r.append (.cons ru .nil)) ?_, rfl, q⟩
  rw [List.length_append, List.length_singleton]
  omega

/-! ### list + list, list += list, list * int -/
def rCat : R2 := fun x y H Q => ∃ l b xs zs, x = .ref l ∧ y = .ref b ∧ H l = some (.lst xs) ∧ H b = some (.lst zs) ∧ xs.length + zs.length ≤ sizeLine ∧ ∀ p, H p = none → Q (.ref p) (upd H p (.lst (xs ++ zs)))
theorem op_cat : OpR X (binaryOp .Add) rCat := by
  intro pins s σ H x y v u Q I rx ry h
  obtain ⟨l, b, xs, zs, rfl, rfl, hH, hB, hz, q⟩ := h
  cases rx
  cases ry
  obtain ⟨z, its, n, r, hl, e⟩ := I.lstM hH
  obtain ⟨z2, its2, n2, r2, hl2, e2⟩ := I.lstM hB
  refine PySem.P.add_list e e2 ?_ (by rw [List.size_toArray, List.size_toArray]; omega)
  have ea : its.toArray ++ its2.toArray = (its ++ its2).toArray := by simp
  rw [ea]
  exact ⟨.ref _, _, I.lnew (t' := s.toks) (r.append r2) (by rw [List.length_append]; omega), rfl, q _ I.fresh⟩
/-! ### del xs[i] -/
end

/-! ### xs[a:b] = ys -/
section
variable {prog : Program} {w : World} {A : Around} {E : Value → Shared → Prop} {s : Shared}
end

section
variable {X : Cx}
end
end L2

namespace L2
open PySem PySem.Spec PyProof.Rows

theorem Vals.ints : ∀ {ns : List Int} {us : List Value}, Vals (ns.map V.int) us → IntsAre us ns
  | [], us, h => by
    rw [List.map_nil] at h
    cases h
    exact IntsAre.nil
  | n :: ns, us, h => by
    rw [List.map_cons] at h
    cases h with
    | cons r t =>
      obtain ⟨k, rfl⟩ := r
      exact IntsAre.cons n k (Vals.ints t)
theorem vals_of_ints : ∀ {us : List Value} {ns : List Int}, IntsAre us ns → Vals (ns.map V.int) us
  | _, _, .nil => by rw [List.map_nil]; exact Paired.nil
  | _, _, .cons n t h => by rw [List.map_cons]; exact Paired.cons (show RelV (V.int n) (Value.int n t) from ⟨t, rfl⟩) (vals_of_ints h)
theorem Vals.bls : ∀ {bs : List Bool} {us : List Value}, Vals (bs.map V.bl) us → us = bs.map Value.bool
  | [], us, h => by
    rw [List.map_nil] at h
    cases h
    rfl
  | b :: bs, us, h => by
    rw [List.map_cons] at h
    cases h with
    | cons r t =>
      cases r
      rw [Vals.bls t, List.map_cons]
theorem Vals.ref1 {a : Addr} {us : List Value} (r : Vals [V.ref a] us) : us = [Value.ref a] := by
  cases r with
  | cons r t =>
    cases t
    cases r
    rfl
/-! ### the library's walks over a list of ints, kept objects alone -/
section
variable {prog : Program} {w : World} {A : Around} {E : Value → Shared → Prop} {s : Shared} {l : Addr} {its : List Value} {ns : List Int} {Q : Value → Shared → Prop}
end

/-! ### the calls, by values (CallR of 03t; MtR of 06l) -/
section
variable {X : Cx}
/-! sorted, sort (fewer than 64 items: the library's own bound) -/
theorem small64 {n : Nat} (h : n < 64) : n ≤ sizeLine := by rw [sizeLine_eq]; omega
end

/-! ### list.index, flat items -/
section
variable {X : Cx}
end

/-! ### type(x) of an own instance; is, is not of a module's class -/
section
variable {X : Cx}
end

/-! ### any(xs), all(xs) of a list of bools -/
theorem iter_any {prog : Program} {w : World} {A : Around} {E : Value → Shared → Prop} {s : Shared} {l : Addr} {items : Array Value} {Q : Value → Shared → Prop} (hl : s.heap.IsList l items)
    (h : ∀ s₂ : Shared, s₂ = { s with heap := s.heap.push { cls := .type "list_iterator", data := .fields #[.ref l, .int 0 0] } } →
      (s₂.heap.IsListIter s.heap.objs.size l 0 ∧ s₂.heap.IsList l items) → l ≠ s.heap.objs.size → Q (.ref s.heap.objs.size) s₂) : wpAny (model prog w) A (pyIter (.ref l)) Q E s := by
  have hlt : l < s.heap.objs.size := by obtain ⟨_, e, _⟩ := hl; exact Heap.lt_size e
  exact wpAny_pyIter_list hl (h _ rfl ⟨⟨_, Heap.get?_push_size _ rfl, rfl, rfl⟩, hl.push _⟩ (Nat.ne_of_lt hlt))
theorem truth_bools {prog : Program} {w : World} {A : Around} {bs : List Bool} {its : List Value} (e : its = bs.map Value.bool) :
    TruthOf prog w A (fun i v => its.toArray[i]? = some v) (fun i => bs.getD i false) := fun i v s Q E hv hq => by
  have hv' : its[i]? = some v := by simpa using hv
  rw [e, List.getElem?_map] at hv'
  obtain ⟨b, hb, rfl⟩ := Option.map_eq_some_iff.mp hv'
  have hg : bs.getD i false = b := by rw [List.getD_eq_getElem?_getD, hb] <;> rfl
  have hq' : Q (bs.getD i false) s := hq
  rw [hg] at hq'
  exact wpAny_truthy_bool hq'
theorem any_range : ∀ bs : List Bool, (List.range bs.length).any (fun i => bs.getD i false) = bs.any id
  | [] => rfl
  | b :: bs => by
    rw [List.length_cons, List.range_succ_eq_map, List.any_cons, List.any_map, List.any_cons, ← any_range bs]
    all_goals rfl
section
variable {X : Cx}
def rAny (K : PySem.W.Frag) : List V → Hp → VK → Prop := fun vs H Q => ∃ (a : Addr) (bs : List Bool), vs = [V.ref a] ∧ SqL K H a (bs.map V.bl) ∧ Q (.bl (bs.any id)) H
theorem cr_any (hc : X.calm = true) : CallR X (.builtin "any") (rAny X.K) := by
  intro pins s σ H vs us Q I r h
  obtain ⟨a, bs, rfl, hs, q⟩ := h
  obtain ⟨its, rv, hl, _⟩ := I.list hs
  rw [Vals.ref1 r]
  have hb := rv.bls
  refine call_any_walk (iter_any hl.isList fun s₂ e2 st hne => ?_)
  subst e2
  refine ⟨_, _, _, _, _, _, _, rfl, Walks.list (A := X.A.in1) (I.ok.hd hc) _ a hne its.toArray, st, truth_bools hb, fun h' tk hk => ?_⟩
  refine ⟨.bl _, H, I.kept fun b o eo => hk b o (fun hmem => ?_) (Heap.get?_push_of_some _ eo), ?_, q⟩
  · rcases List.mem_cons.mp hmem with e1 | hmem
    · exact absurd (e1 ▸ Heap.lt_size eo) (Nat.lt_irrefl _)
    · cases hmem
  · show Value.bool _ = Value.bool _
    rw [← any_range, hb, List.size_toArray, List.length_map]
end

/-! ### == and != of data at any depth: none, bools, ints, texts, lists, tuples -/
section
variable {X : Cx} {pins : List (Addr × Obj)} {σ : St} {H : Hp} {s : Shared}
end
section
variable {X : Cx}
end
end L2

namespace L2
open PySem PySem.Spec PyProof.Rows
abbrev CellAt (h : Heap) (c : Addr) (v : Option Value) : Prop := h.IsCell c v
def relS (scope sc : Scope) : Scope :=
  { scope with names := scope.names.map fun (n, k) => if (k == .free && sc.kind == .function && sc.names.lookup n == some .cell) then (n, .cell) else (n, k) }

def cloFrom (cells : List (Str × Addr)) : List (Str × NameKind) → List (Str × Addr) → List (Str × Addr)
  | [], acc => acc
  | (n, k) :: r, acc => if k == .free then cloFrom cells r ((n, (cells.lookup n).getD 0) :: acc) else cloFrom cells r acc

theorem closure_loop (env : Env) (f : Str × NameKind → List (Str × Addr) → Sem (ForInStep (List (Str × Addr))))
    (hf : ∀ n k c, f (n, k) c = if k == .free then (do let a ← cellOf env n; pure (.yield ((n, a) :: c))) else pure (.yield c)) :
    ∀ (names : List (Str × NameKind)) (acc : List (Str × Addr)), (∀ y ∈ names, y.2 = .free → ∃ c, env.cells.lookup y.1 = some c) → forIn names acc f = pure (cloFrom env.cells names acc)
  | [], acc, _ => by rw [List.forIn_nil]; rfl
  | (n, k) :: r, acc, h => by
    rw [List.forIn_cons, hf]
    have ih := fun acc => closure_loop env f hf r acc fun y hy => h y (List.mem_cons_of_mem _ hy)
    unfold cloFrom
    by_cases hk : (k == NameKind.free) = true
    · rw [if_pos hk, if_pos hk]
      obtain ⟨c, hc⟩ := h (n, k) List.mem_cons_self (by simpa using hk)
      have e : cellOf env n = pure c := by unfold cellOf; rw [hc]
      rw [e]
      have e2 : (env.cells.lookup n).getD 0 = c := by rw [hc]; rfl
      rw [e2]
      exact ih _
    · rw [if_neg hk, if_neg hk]
      exact ih _
theorem closure_ok {scope : Scope} {env : Env} (h : ∀ y ∈ scope.names, y.2 = .free → ∃ c, env.cells.lookup y.1 = some c) : closureFor scope env = pure (cloFrom env.cells scope.names []) := by
  simp only [closureFor]
  rw [closure_loop env _ (fun n k c => rfl) scope.names [] h]
  rfl

theorem mem_lookup {α : Type} : ∀ {l : List (Str × α)} {n : Str} {c : α}, (n, c) ∈ l → ∃ c', l.lookup n = some c'
  | (k, v) :: r, n, c, h => by
    rw [List.lookup_cons]
    cases hb : n == k with
    | true => exact ⟨_, rfl⟩
    | false =>
      rcases List.mem_cons.mp h with e | h
      · cases e; simp at hb
      · exact mem_lookup h

theorem cloFrom_mem {cells : List (Str × Addr)} : ∀ {names : List (Str × NameKind)} {acc : List (Str × Addr)} {n : Str} {c : Addr}, (n, c) ∈ cloFrom cells names acc → (n, c) ∈ acc ∨ ((n, .free) ∈ names ∧ c = (cells.lookup n).getD 0)
  | [], _, _, _, h => .inl h
  | (m, k) :: r, acc, n, c, h => by
    unfold cloFrom at h
    split at h
    · rename_i hk
      have hk : k = .free := by simpa using hk
      rcases cloFrom_mem h with h | ⟨h1, h2⟩
      · rcases List.mem_cons.mp h with e | h
        · cases e; exact .inr ⟨hk ▸ List.mem_cons_self, rfl⟩
        · exact .inl h
      · exact .inr ⟨List.mem_cons_of_mem _ h1, h2⟩
    · rcases cloFrom_mem h with h | ⟨h1, h2⟩
      · exact .inl h
      · exact .inr ⟨List.mem_cons_of_mem _ h1, h2⟩
theorem cloFrom_acc {cells : List (Str × Addr)} : ∀ {names : List (Str × NameKind)} {acc : List (Str × Addr)} {p : Str × Addr}, p ∈ acc → p ∈ cloFrom cells names acc
  | [], _, _, h => h
  | (m, k) :: r, acc, p, h => by
    unfold cloFrom
    split
    · exact cloFrom_acc (List.mem_cons_of_mem _ h)
    · exact cloFrom_acc h
theorem cloFrom_has {cells : List (Str × Addr)} : ∀ {names : List (Str × NameKind)} {acc : List (Str × Addr)} {n : Str}, (n, .free) ∈ names → (n, (cells.lookup n).getD 0) ∈ cloFrom cells names acc
  | (m, k) :: r, acc, n, h => by
    unfold cloFrom
    rcases List.mem_cons.mp h with e | h
    · cases e
      exact cloFrom_acc List.mem_cons_self
    · split
      · exact cloFrom_has h
      · exact cloFrom_has h

theorem cells_mem : ∀ {names : List (Str × NameKind)} {h : Heap} {acc : List (Str × Addr)} {x : Str} {c : Addr}, (x, c) ∈ cellsFrom h.objs.size names acc →
    (x, c) ∈ acc ∨ ((x, .cell) ∈ names ∧ h.objs.size ≤ c ∧ CellAt (pushCells h names) c none)
  | [], _, _, _, _, h => .inl h
  | (n, k) :: r, h, acc, x, c, hm => by
    unfold cellsFrom at hm
    unfold pushCells
    split at hm
    · rename_i hk
      rw [if_pos hk]
      have hk : k = .cell := by simpa using hk
      rw [← Heap.size_push h { cls := .type "cell", data := .cell none }] at hm
      rcases cells_mem hm with hm | ⟨h1, h2, h3⟩
      · rcases List.mem_cons.mp hm with e | hm
        · cases e
          exact .inr ⟨hk ▸ List.mem_cons_self, Nat.le_refl _, _, pushCells_keeps r _ _ _ (Heap.get?_push_size _ rfl), rfl⟩
        · exact .inl hm
      · rw [Heap.size_push] at h2
        exact .inr ⟨List.mem_cons_of_mem _ h1, Nat.le_of_succ_le h2, h3⟩
    · rename_i hk
      rw [if_neg hk]
      rcases cells_mem hm with hm | ⟨h1, h2, h3⟩
      · exact .inl hm
      · exact .inr ⟨List.mem_cons_of_mem _ h1, h2, h3⟩
theorem cells_acc : ∀ {names : List (Str × NameKind)} {n : Nat} {acc : List (Str × Addr)} {p : Str × Addr}, p ∈ acc → p ∈ cellsFrom n names acc
  | [], _, _, _, h => h
  | (m, k) :: r, n, acc, p, h => by
    unfold cellsFrom
    split
    · exact cells_acc (List.mem_cons_of_mem _ h)
    · exact cells_acc h
theorem cells_has : ∀ {names : List (Str × NameKind)} {n : Nat} {acc : List (Str × Addr)} {x : Str}, (x, .cell) ∈ names → ∃ c, (x, c) ∈ cellsFrom n names acc
  | (m, k) :: r, n, acc, x, h => by
    unfold cellsFrom
    rcases List.mem_cons.mp h with e | h
    · cases e
      exact ⟨n, cells_acc List.mem_cons_self⟩
    · split
      · exact cells_has h
      · exact cells_has h
theorem cells_inj : ∀ {names : List (Str × NameKind)} {h : Heap} {acc : List (Str × Addr)} {x y : Str} {c : Addr}, (∀ p ∈ acc, p.2 < h.objs.size) → (∀ x y c, (x, c) ∈ acc → (y, c) ∈ acc → x = y) →
    (x, c) ∈ cellsFrom h.objs.size names acc → (y, c) ∈ cellsFrom h.objs.size names acc → x = y
  | [], _, _, _, _, _, _, hi, h1, h2 => hi _ _ _ h1 h2
  | (n, k) :: r, h, acc, x, y, c, hl, hi, h1, h2 => by
    unfold cellsFrom at h1 h2
    split at h1
    · rename_i hk
      rw [if_pos hk] at h2
      rw [← Heap.size_push h { cls := .type "cell", data := .cell none }] at h1 h2
      refine cells_inj (h := h.push _) (fun p hp => ?_) (fun x y c a b => ?_) h1 h2
      · rw [Heap.size_push]
        rcases List.mem_cons.mp hp with rfl | hp
        · exact Nat.lt_succ_self _
        · exact Nat.lt_succ_of_lt (hl p hp)
      · rcases List.mem_cons.mp a with e | a <;> rcases List.mem_cons.mp b with e' | b
        · cases e; cases e'; rfl
        · cases e; exact absurd (hl _ b) (Nat.lt_irrefl _)
        · cases e'; exact absurd (hl _ a) (Nat.lt_irrefl _)
        · exact hi _ _ _ a b
    · rename_i hk
      rw [if_neg hk] at h2
      exact cells_inj hl hi h1 h2

theorem newEnv_comp {M : Model} {A : Around} {E : Value → Shared → Prop} {s : Shared} {scope : Scope} {globals : Addr} {closure : List (Str × Addr)} {qual : Str} {func : Option Addr} {code : Value} {around : Env} {builtins : Addr} {Q : Env → Shared → Prop}
    (h : Q (newEnv scope s.heap.objs.size globals (cellsFrom (s.heap.objs.size + 1) scope.names closure) qual func code (some around) builtins)
      { s with heap := pushCells (s.heap.push { cls := .type "dict", data := .dict #[] }) scope.names }) :
    wpAny M A (newFunctionEnv scope globals closure [] qual func code (some around) builtins) Q E s := by
  simp only [newFunctionEnv, Option.isSome_some, if_true]
  refine wpAny_bind (wpAny_alloc ?_)
  refine wpAny_bind (wpAny_layCells _ (fun n k c => rfl) scope.names closure _ _ ?_)
  rw [show ({ s with heap := s.heap.push { cls := .type "dict", data := .dict #[] } } : Shared).heap.objs.size = s.heap.objs.size + 1 from Heap.size_push ..]
  rw [List.forIn_nil]
  exact wpAny_bind (wpAny_pure (wpAny_pure h))

/-- every name of the written scope, in the scope that runs -/
theorem lookup_relS {sc : Scope} : ∀ {names : List (Str × NameKind)} {x : Str} {k : NameKind},
    (names.map fun (n, k) => if (k == NameKind.free && sc.kind == .function && sc.names.lookup n == some .cell) then (n, NameKind.cell) else (n, k)).lookup x = some k →
    ∃ k', names.lookup x = some k' ∧ (k = k' ∨ (k' = .free ∧ k = .cell))
  | [], _, _, h => by simp at h
  | (n, k₀) :: r, x, k, h => by
    have ih := @lookup_relS sc r x k
    have h' : List.lookup x ((if (k₀ == NameKind.free && sc.kind == .function && sc.names.lookup n == some .cell) = true then (n, NameKind.cell) else (n, k₀)) :: (r.map _)) = some k := h
    cases hx : x == n with
    | true =>
      simp only [List.lookup_cons, hx]
      by_cases hc : (k₀ == NameKind.free && sc.kind == .function && sc.names.lookup n == some .cell) = true
      · rw [if_pos hc] at h'
        simp only [List.lookup_cons, hx] at h'
        cases h'
        simp only [Bool.and_eq_true, beq_iff_eq] at hc
        exact ⟨k₀, rfl, .inr ⟨hc.1.1, rfl⟩⟩
      · rw [if_neg hc] at h'
        simp only [List.lookup_cons, hx] at h'
        cases h'
        exact ⟨_, rfl, .inl rfl⟩
    | false =>
      simp only [List.lookup_cons, hx]
      by_cases hc : (k₀ == NameKind.free && sc.kind == .function && sc.names.lookup n == some .cell) = true
      · rw [if_pos hc] at h'
        simp only [List.lookup_cons, hx] at h'
        exact ih h'
      · rw [if_neg hc] at h'
        simp only [List.lookup_cons, hx] at h'
        exact ih h'
/-- the names of a comprehension's block: its own (with their places in N), or captured -/
structure BlkOk (N : List Str) (sc scope : Scope) (own : List (Str × Nat)) : Prop where
  kind : scope.kind = .function
  uniq : ∀ y ∈ scope.names, scope.names.lookup y.1 = some y.2
  ix : ∀ p ∈ own, N[p.2]? = some p.1
  free : ∀ y ∈ scope.names, y.2 = .free → sc.names.lookup y.1 = some .cell ∨ sc.names.lookup y.1 = some .free
  own : ∀ y ∈ scope.names, y.2 = .local ∨ y.2 = .cell → y.1 ∈ own.map (·.1) ∨ y.1 ∉ N
/-- the slots of the block's own names forgotten -/
def wipe (σ : St) : List Nat → St
  | [] => σ
  | v :: vs => (wipe σ vs).set v none
theorem wipe_length (σ : St) : ∀ vs : List Nat, (wipe σ vs).length = σ.length
  | [] => rfl
  | v :: vs => by unfold wipe; rw [List.length_set, wipe_length σ vs]
theorem wipe_some {σ : St} {i : Nat} {x : V} : ∀ {vs : List Nat}, (wipe σ vs)[i]? = some (some x) → σ[i]? = some (some x) ∧ i ∉ vs
  | [], h => ⟨h, by simp⟩
  | v :: vs, h => by
    unfold wipe at h
    by_cases hi : v = i
    · subst hi
      by_cases hv : v < (wipe σ vs).length
      · rw [List.getElem?_set_self hv] at h; cases h
      · rw [List.getElem?_eq_none (by simpa using hv)] at h; cases h
    · rw [List.getElem?_set_ne hi] at h
      obtain ⟨h1, h2⟩ := wipe_some h
      exact ⟨h1, by simp only [List.mem_cons, not_or]; exact ⟨fun e => hi e.symm, h2⟩⟩

/-- the context of a block that starts at s, its iterator's objects at fp -/
abbrev Cx.blk (X : Cx) (s : Shared) (H : Hp) (scope : Scope) (cenv : Env) (fp : List Addr) : Cx := { X with s_0 := s, H_0 := H, env := cenv, outer := X.stack, ex := fp, fn := fun x => scope.names.lookup x == some .cell, pn := [], xe := fun _ _ => False }
section
variable {X : Cx} {pins : List (Addr × Obj)} {σ : St} {H : Hp} {s : Shared}
theorem block_start {scope : Scope} {own : List (Str × Nat)} {fp : List Addr} (I : Inv X pins σ H s) (ok : BlkOk X.N X.env.scope scope own) (hN : X.N.Nodup) (hfp : ∀ b ∈ fp, FpOk X pins H b ∧ b < s.heap.objs.size) :
    Inv (X.blk s H scope (compEnvC scope (cellsFrom (s.heap.objs.size + 1) scope.names (cloFrom X.env.cells scope.names [])) s.heap.objs.size X.env) fp) [] (wipe σ (own.map (·.2))) H { s with heap := pushCells (s.heap.push { cls := .type "dict", data := .dict #[] }) scope.names } := by
  have hfree : ∀ y ∈ scope.names, y.2 = .free → ∃ c, X.env.cells.lookup y.1 = some c := fun y hy e => by
    rcases ok.free y hy e with k | k
    · exact I.ok.has _ (.inl k)
    · exact I.ok.has _ (.inr k)
  generalize hcenv : compEnvC scope (cellsFrom (s.heap.objs.size + 1) scope.names (cloFrom X.env.cells scope.names [])) s.heap.objs.size X.env = cenv
  have kp : ∀ b o, s.heap.get? b = some o → (pushCells (s.heap.push { cls := .type "dict", data := .dict #[] }) scope.names).get? b = some o := fun b o e => pushCells_keeps _ _ _ _ (Heap.get?_push_of_some _ e)
  have hL : cenv.locals = s.heap.objs.size := by rw [← hcenv]; rfl
  have hcl : cenv.cells = cellsFrom (s.heap.objs.size + 1) scope.names (cloFrom X.env.cells scope.names []) := by rw [← hcenv]; rfl
  have hsc : cenv.scope = relS scope X.env.scope := by rw [← hcenv]; rfl
  rw [← Heap.size_push s.heap { cls := .type "dict", data := .dict #[] }] at hcl
  have cm : ∀ {y c}, (y, c) ∈ cloFrom X.env.cells scope.names [] → X.env.cells.lookup y = some c ∧ c < s.heap.objs.size := fun {y c} hm => by
    rcases cloFrom_mem hm with hm | ⟨h1, rfl⟩
    · cases hm
    · obtain ⟨c, hc⟩ := hfree _ h1 rfl
      rw [hc]
      obtain ⟨w, z⟩ := I.cell _ _ hc
      exact ⟨rfl, z.lt⟩
  have mem : ∀ {y c}, cenv.cells.lookup y = some c → (X.env.cells.lookup y = some c ∧ c < s.heap.objs.size) ∨ (s.heap.objs.size + 1 ≤ c ∧ CellAt (pushCells (s.heap.push { cls := .type "dict", data := .dict #[] }) scope.names) c none) := fun {y c} e => by
    rw [hcl] at e
    rcases cells_mem (PySem.mem_of_lookup e) with hm | ⟨_, h2, h3⟩
    · exact .inl (cm hm)
    · rw [Heap.size_push] at h2; exact .inr ⟨h2, h3⟩
  have look : ∀ {y}, scope.names.lookup y = some .free → ∃ c, cenv.cells.lookup y = some c ∧ X.env.cells.lookup y = some c := fun {y} hl => by
    have hy : (y, NameKind.free) ∈ scope.names := PySem.mem_of_lookup hl
    obtain ⟨c', e'⟩ := mem_lookup (cells_acc (names := scope.names) (n := (s.heap.push { cls := .type "dict", data := .dict #[] }).objs.size) (cloFrom_has (cells := X.env.cells) (acc := []) hy))
    rw [← hcl] at e'
    refine ⟨c', e', ?_⟩
    rw [hcl] at e'
    rcases cells_mem (PySem.mem_of_lookup e') with hm | ⟨h1, _, _⟩
    · exact (cm hm).1
    · have := ok.uniq _ h1
      rw [hl] at this; cases this
  have okB : (X.blk s H scope cenv fp).Ok := by
    refine ⟨I.ok.mod, by show cenv.scope.kind = _; rw [hsc]; exact ok.kind, by show cenv.globals = _; rw [← hcenv]; exact I.ok.glob, by show cenv.builtins = _; rw [← hcenv]; exact I.ok.blt, by show s.heap.objs.size ≤ cenv.locals; rw [hL]; exact Nat.le_refl _,
      fun y z c e1 e2 => ?_, fun y hy => ?_, fun y c z e => ?_, I.ok.hd, I.ok.frames, .inl rfl, fun b hb => ⟨?_, fun y c e z => ?_⟩, I.bs, Nat.le_trans I.ok.bsz I.sz, fun b o e hb => ?_, fun b hb z => ?_, I.stack, I.stkFree⟩
    · have e1 : cenv.cells.lookup y = some c := e1
      have e2 : cenv.cells.lookup z = some c := e2
      rw [hcl] at e1 e2
      refine cells_inj (fun p hp => ?_) (fun y z c a b => I.ok.inj y z c (cm a).1 (cm b).1) (PySem.mem_of_lookup e1) (PySem.mem_of_lookup e2)
      rw [Heap.size_push]
      exact Nat.lt_succ_of_lt (cm (y := p.1) (c := p.2) hp).2
    · show ∃ c, cenv.cells.lookup y = some c
      have key : ∀ k, cenv.kindOf y = some k → (k = .cell ∨ k = .free) → ∃ c, cenv.cells.lookup y = some c := fun k hk hk' => by
        unfold Env.kindOf at hk
        rw [hsc] at hk
        obtain ⟨k', e, r⟩ := lookup_relS hk
        have : k' = .cell ∨ k' = .free := by
          rcases r with rfl | ⟨rfl, _⟩
          · exact hk'
          · exact .inr rfl
        rcases this with rfl | rfl
        · obtain ⟨c, hm⟩ := cells_has (n := (s.heap.push { cls := .type "dict", data := .dict #[] }).objs.size) (acc := cloFrom X.env.cells scope.names []) (PySem.mem_of_lookup e)
          obtain ⟨c', e'⟩ := mem_lookup hm
          exact ⟨c', by rw [hcl]; exact e'⟩
        · obtain ⟨c, h1, _⟩ := look e
          exact ⟨c, h1⟩
      rcases hy with hy | hy
      · exact key _ hy (.inl rfl)
      · exact key _ hy (.inr rfl)
    · have z : (scope.names.lookup y == some NameKind.cell) = true := z
      have z : scope.names.lookup y = some .cell := by simpa using z
      have e : cenv.cells.lookup y = some c := e
      rw [hcl] at e
      rcases cells_mem (PySem.mem_of_lookup e) with hm | ⟨_, h2, _⟩
      · rcases cloFrom_mem hm with hm | ⟨h1, _⟩
        · cases hm
        · have q := ok.uniq _ h1
          rw [z] at q; cases q
      · rw [Heap.size_push] at h2
        exact Nat.le_of_succ_le h2
    · show b ≠ cenv.locals
      rw [hL]; exact Nat.ne_of_lt (hfp b hb).2
    · have e : cenv.cells.lookup y = some c := e
      rcases mem e with ⟨h1, _⟩ | ⟨h1, _⟩
      · exact (hfp b hb).1.2.2.2.2.1 y c h1 z
      · have h2 : s.heap.objs.size + 1 ≤ b := by rw [← z]; exact h1
        exact absurd (Nat.lt_of_lt_of_le (hfp b hb).2 (Nat.le_of_succ_le h2)) (Nat.lt_irrefl _)
    · rcases (hfp b hb).1.2.2.2.1 with z | z
      · exact I.ok.noex b o e z
      · exact absurd (Nat.lt_of_lt_of_le (Heap.lt_size e) (Nat.le_trans I.ok.bsz z)) (Nat.lt_irrefl _)
    · rcases List.mem_cons.mp (I.stkSub b z) with z | z
      · exact (hfp b hb).1.2.1 z
      · exact (hfp b hb).1.2.2.1 z
  refine ⟨okB, rfl, I.bare, Un.kept kp, ⟨fun _ => none, ?_, fun i y av e1 e2 e3 => ?_⟩, fun y c e => ?_, ?_, fun y c e => ?_, fun p hp => ?_, I.hok.kept kp, by rw [wipe_length]; exact I.len⟩
  · show Heap.Ns _ cenv.locals _
    rw [hL]
    exact Heap.Ns.keeps (Heap.Ns.new ..) fun b o e => pushCells_keeps _ _ _ _ e
  · obtain ⟨e2, hne⟩ := wipe_some e2
    have hfr : scope.names.lookup y = some .free ∧ (cenv.kindOf y = some .cell ∨ cenv.kindOf y = some .free) := by
      have key : ∀ k, cenv.scope.names.lookup y = some k → k = .local ∨ k = .cell ∨ k = .free → scope.names.lookup y = some .free ∧ (cenv.kindOf y = some .cell ∨ cenv.kindOf y = some .free) := fun k hk hk' => by
        have hk0 := hk
        rw [hsc] at hk
        obtain ⟨k', e, r⟩ := lookup_relS hk
        have no : ¬ (k' = .local ∨ k' = .cell) := fun hh => by
          rcases ok.own _ (PySem.mem_of_lookup e) hh with e' | e'
          · obtain ⟨p, hp, hpy⟩ := List.mem_map.mp e'
            have e3 := ok.ix p hp
            have : p.1 = y := hpy
            rw [this] at e3
            exact hne (List.mem_map.mpr ⟨p, hp, nodup_ix hN e3 e1⟩)
          · exact e' (List.mem_of_getElem? e1)
        rcases r with rfl | ⟨rfl, rfl⟩
        · rcases hk' with rfl | rfl | rfl
          · exact absurd (.inl rfl) no
          · exact absurd (.inr rfl) no
          · exact ⟨e, .inr hk0⟩
        · exact ⟨e, .inl hk0⟩
      have e3 : Vis cenv.scope y := e3
      rcases e3 with e3 | e3 | e3
      · exact key _ e3 (.inl rfl)
      · exact key _ e3 (.inr (.inl rfl))
      · exact key _ e3 (.inr (.inr rfl))
    obtain ⟨m, hn, hl⟩ := I.loc
    have hvis : Vis X.env.scope y := (ok.free _ (PySem.mem_of_lookup hfr.1) rfl).elim (fun k => .inr (.inl k)) (fun k => .inr (.inr k))
    obtain ⟨w, r, q⟩ := hl i y av e1 e2 hvis
    refine ⟨w, r, .inr ⟨hfr.2, ?_⟩⟩
    obtain ⟨c, h1, h2⟩ := look hfr.1
    rcases q with ⟨k, _⟩ | ⟨_, c', e', z⟩
    · have k : X.env.scope.names.lookup y = some .local := k
      rcases ok.free _ (PySem.mem_of_lookup hfr.1) rfl with k' | k' <;> rw [show X.env.scope.names.lookup y = _ from k'] at k <;> cases k
    · rw [h2] at e'; cases e'
      exact ⟨c, h1, z.keeps kp⟩
  · have e : cenv.cells.lookup y = some c := e
    rcases mem e with ⟨h1, _⟩ | ⟨_, z⟩
    · obtain ⟨w, z⟩ := I.cell y c h1
      exact ⟨w, z.keeps kp⟩
    · exact ⟨_, z⟩
  · show H cenv.locals = none
    rw [hL]; exact I.hok.fresh (Nat.le_refl _)
  · have e : cenv.cells.lookup y = some c := e
    rcases mem e with ⟨h1, _⟩ | ⟨h1, _⟩
    · exact I.freeC y c h1
    · exact I.hok.fresh (Nat.le_of_succ_le h1)
  · exact absurd (show p ∈ ([] : List (Addr × Obj)) ++ [] from hp) (by simp)

/-- an item appended to a tracked list -/
theorem app_ok {E : Value → Shared → Prop} {D : Addr} {xs : List V} {y : V} {v : Value} {Q : Value → Shared → Prop} (I : Inv X pins σ H s) (hD : H D = some (.lst xs)) (hz : xs.length < sizeLine) (r : RelV y v)
    (h : ∀ s', Inv X pins σ (upd H D (.lst (xs ++ [y]))) s' → Q .none s') : wpAny (model X.prog X.w) X.A (call (.builtin "list.append") [.ref D, v]) Q E s := by
  obtain ⟨hz', its, n, ri, e⟩ := I.hok D _ hD
  have hl := ri.length
  refine append_at (hsz := by rw [List.size_toArray]; omega) e fun h' sb ho' => ?_
  refine h { s with heap := h' } (I.write (t' := s.toks) (by rw [hD]; trivial) (.inl rfl) (fun b u hb q => (sb.2 b hb).trans q) ⟨_, ho'⟩ ⟨by rw [List.length_append]; exact hz, its ++ [v], n + 1, ri.append (.cons r .nil), ?_⟩)
  rw [ho']
  simp

/-- a clause's tests -/
def PTs (X : Cx) (ifs : List Expr) (t : TT) : Prop :=
  ∀ (pins : List (Addr × Obj)) (s : Shared) (σ : St) (H : Hp) (Q : Bool → Hp → Prop), Inv X pins σ H s → t σ H Q →
    wpAny (model X.prog X.w) X.A (forIn ifs true fun c r => if r = true then do let ok ← isTrue c X.env (eval c X.env); pure (ForInStep.yield ok) else pure (ForInStep.yield r)) (TP X pins σ Q) X.xe s
def tYes : TT := fun _ H Q => Q true H
theorem pts_nil : PTs X [] tYes := fun _ _ _ H _ I h => wpAny_tests_nil ⟨H, I, h⟩
theorem pts_one {c : Expr} {t : TT} (h : PT X c t) : PTs X [c] t := fun pins s σ H Q I hw => wpAny_tests_one (h pins s σ H Q I hw)
end

theorem thnF {α : Type} {t : Sem α} {Q Q' : α → Shared → Prop} {M : Model} {A : Around} {E : Value → Shared → Prop} {s : Shared} (h : wpAny M A t Q (fun _ _ => False) s) (hQ : ∀ a s, Q a s → Q' a s) : wpAny M A t Q' E s := wpAny_mono h hQ fun _ _ z => False.elim z

/-- the loop of a list comprehension's block, the target of any form (codeAny_compLoop_tests asks a target that no tuple goes to; statement and proof follow it, PyProof/CompMap.lean:41-61, with the step letOwnedTupleGo kept) -/
theorem compLoop_any {prog : Program} {w : World} {A : Around} {R : Result → Shared → Prop} {s : Shared} {elt target iter : Expr} {ifs : List Expr} {scope : Scope} {pos : Pos} {it acc : Value} {env : Env} (I : Nat → Shared → Prop)
    (turn : ∀ n s, I n s → wpAny (model prog w) A (pyNext it) (fun r s₁ => match r with
      | none => R (.ok .next) s₁
      | some v => wpAny (model prog w) A (letOwnedTupleGo target it v) (fun _ s₁' => wpAny (model prog w) A (assign target env v) (fun _ s₂ =>
          wpAny (model prog w) A (forIn ifs true fun c r => if r = true then do let ok ← isTrue c env (eval c env); pure (ForInStep.yield ok) else pure (ForInStep.yield r)) (fun ok s₃ =>
            if ok = true then wpAny (model prog w) A (eval elt env) (fun x s₄ =>
              wpAny (model prog w) A (call (.builtin "list.append") [acc, x]) (fun _ s₅ => ∃ m, m < n ∧ I m s₅) (notedBy (model prog w) A env fun e s' => R (.error e) s') s₄) (notedBy (model prog w) A env fun e s' => R (.error e) s') s₃
            else ∃ m, m < n ∧ I m s₃) (notedBy (model prog w) A env fun e s' => R (.error e) s') s₂) (notedBy (model prog w) A env fun e s' => R (.error e) s') s₁') (notedBy (model prog w) A env fun e s' => R (.error e) s') s₁) (notedBy (model prog w) A env fun e s' => R (.error e) s') s)
    (n : Nat) (h : I n s) :
    codeAny (model prog w) A (.compLoop (.ListComp elt [⟨target, iter, ifs, 0⟩] scope pos) 0 it acc env) R s := by
  refine codeAny_loop rfl I (fun n s hI => ?_) n h
  show wpAny _ A ((compTurn (.ListComp elt [⟨target, iter, ifs, 0⟩] scope pos) 0 it acc env).onRaise (fun x => do noteFrame x env; theTreesLotGoes x)) _ _ s
  refine wpAny_noted ?_
  rw [compTurn_list]
  refine wpAny_bind (wpAny_standAt (wpAny_bind (wpAny_mono (turn n s hI) (fun r s₁ h₁ => ?_) fun _ _ h' => h')))
  cases r with
  | none => exact wpAny_pure h₁
  | some v =>
    refine wpAny_bind (wpAny_mono h₁ (fun _ s₁' h₁' => ?_) fun _ _ h' => h')
    refine wpAny_bind (wpAny_mono h₁' (fun _ s₂ h₂ => wpAny_bind (wpAny_mono h₂ (fun ok s₃ h₃ => ?_) fun _ _ h' => h')) fun _ _ h' => h')
    cases ok with
    | false => exact wpAny_pure ⟨rfl, h₃⟩
    | true =>
      exact wpAny_bind (wpAny_bind (wpAny_mono h₃ (fun x s₄ h₄ => wpAny_bind (wpAny_mono h₄ (fun _ s₅ h₅ => wpAny_pure (wpAny_pure ⟨rfl, h₅⟩)) fun _ _ h' => h')) fun _ _ h' => h'))

section
variable {X : Cx}
/-- [elt for target in iter if ..]: D the new list; W by the turn and a measure, Nx what a turn is to reach -/
def tLc (wi : TI) (g : TG) (tt : TT) (te : TE) (vs : List Nat) : TE := fun σ H Q => wi σ H fun J H1 => ∀ D, H1 D = none → ∃ W : Nat → Nat → Hp → Prop, (∃ m, W 0 m (upd H1 D (.lst []))) ∧ ∀ i m H, W i m H →
  (J.stop i H ∧ Q (.ref D) H) ∨ (J.go i H ∧ ∃ Nx : Hp → Prop, (∀ H', Nx H' → ∃ m', m' < m ∧ W (i + 1) m' H') ∧ ∀ x H', J.yld i H x H' → g x (wipe σ vs) H' fun σ2 H2 => wipe σ2 vs = wipe σ vs ∧ tt σ2 H2 fun b H3 =>
    if b = true then te σ2 H3 fun y H4 => ∃ acc, H4 D = some (.lst acc) ∧ acc.length < sizeLine ∧ Nx (upd H4 D (.lst (acc ++ [y]))) else Nx H3)
theorem lc_core {pins : List (Addr × Obj)} {s : Shared} {σ : St} {H : Hp} {Q : VK} {elt tg iter : Expr} {ifs : List Expr} {scope : Scope} {own : List (Str × Nat)} {pos pos' : Pos} {wi : TI} {g : TG} {tt : TT} {te : TE} {use : Option (Value → Sem Unit)} {Qf : Value → Shared → Prop}
    (hc : X.calm = true) (hN : X.N.Nodup) (I : Inv X pins σ H s) (hi : PI X tg iter wi) (ok : BlkOk X.N X.env.scope scope own)
    (hg : ∀ (s : Shared) (H : Hp) (C : Addr) (cl : List (Str × Addr)) (fp : List Addr), PG (X.blk s H scope (compEnvC scope cl C X.env) fp) tg g) (ht : ∀ (s : Shared) (H : Hp) (C : Addr) (cl : List (Str × Addr)) (fp : List Addr), PTs (X.blk s H scope (compEnvC scope cl C X.env) fp) ifs tt)
    (he : ∀ (s : Shared) (H : Hp) (C : Addr) (cl : List (Str × Addr)) (fp : List Addr), PE (X.blk s H scope (compEnvC scope cl C X.env) fp) elt te) (hs : ∀ x, foldedSetIterable iter X.env x = pure x)
    (h : tLc wi g tt te (own.map (·.2)) σ H Q)
    (hRR : ∀ D C s' m H', Inv X pins σ H' s' → Q (.ref D) H' → s'.heap.Ns C m → FpOk X pins H' C → compPost (model X.prog X.w) X.A X.xe use Qf (.ref D) C (.ok .next) s') :
    wpAny (model X.prog X.w) X.A (comprehension (.ListComp elt [⟨tg, iter, ifs, 0⟩] scope pos) scope X.env pos' (newList []) false (eval iter X.env) use) Qf X.xe s := by
  have hfree : ∀ y ∈ scope.names, y.2 = .free → ∃ c, X.env.cells.lookup y.1 = some c := fun y hy e => by
    rcases ok.free y hy e with k | k
    · exact I.ok.has _ (.inl k)
    · exact I.ok.has _ (.inr k)
  refine wpAny_comprehension_free (use := use) rfl hs (closure_ok hfree) ok.kind (fun y hy e => by rw [ok.uniq y hy, e])
    (thn (hi pins s σ H _ I h) fun xv s1 hx => thn hx fun itv s2 h2 => ?_)
  obtain ⟨it, fp, tn, J, H2, e, I2, T, st2, f2, q⟩ := h2
  subst e
  refine wpAny_newObj_type (newEnv_comp ?_) (by show 0 ≤ sizeLine; decide)
  generalize hD : s2.heap.objs.size = D
  have hDn : H2 D = none := I2.hok.fresh (Nat.le_of_eq hD)
  obtain ⟨W, ⟨m0, w0⟩, turn⟩ := q D hDn
  -- the new list
  generalize hs3 : ({ s2 with heap := s2.heap.push { cls := .type "list", data := .seq ([] : List Value).toArray } } : Shared) = s3
  have I3 : Inv X pins σ (upd H2 D (.lst [])) s3 := by
    rw [← hs3]
    refine I2.laid (t' := s2.toks) (fun b o e => Heap.get?_push_of_some _ e) (Nat.le_of_eq hD) ⟨Nat.zero_le _, [], 0, .nil, ?_⟩
    rw [← hD]
    exact Heap.get?_push_size _ rfl
  have h3 : s3.heap = s2.heap.push { cls := .type "list", data := .seq ([] : List Value).toArray } := by rw [← hs3]
  have sz : ∀ b ∈ fp, b < s2.heap.objs.size := fun b hb => by
    obtain ⟨o, e, _⟩ := T.obj _ _ st2 b hb
    exact Heap.lt_size e
  have f3 : ∀ b ∈ fp, FpOk X pins (upd H2 D (.lst [])) b ∧ b < s3.heap.objs.size := fun b hb => by
    have hlt := sz b hb
    refine ⟨⟨?_, (f2 b hb).2⟩, by rw [h3, Heap.size_push]; exact Nat.lt_succ_of_lt hlt⟩
    rw [upd_ne (by rw [← hD]; exact Nat.ne_of_lt hlt)]
    exact (f2 b hb).1
  have st3 : tn 0 s3.heap := T.keep _ _ _ st2 fun b _ o e => by rw [h3]; exact Heap.get?_push_of_some _ e
  have I4 := block_start I3 ok hN f3
  have pg := hg s3 (upd H2 D (.lst [])) s3.heap.objs.size (cellsFrom (s3.heap.objs.size + 1) scope.names (cloFrom X.env.cells scope.names [])) fp
  have pt := ht s3 (upd H2 D (.lst [])) s3.heap.objs.size (cellsFrom (s3.heap.objs.size + 1) scope.names (cloFrom X.env.cells scope.names [])) fp
  have pe := he s3 (upd H2 D (.lst [])) s3.heap.objs.size (cellsFrom (s3.heap.objs.size + 1) scope.names (cloFrom X.env.cells scope.names [])) fp
  show codeAny _ _ (.compStart (.ListComp elt [⟨tg, iter, ifs, 0⟩] scope pos) 0 (.ref it) (.ref D) (compEnvC scope (cellsFrom (s3.heap.objs.size + 1) scope.names (cloFrom X.env.cells scope.names [])) s3.heap.objs.size X.env)) (compPost (model X.prog X.w) X.A X.xe use Qf (.ref D) s3.heap.objs.size) { s3 with heap := pushCells (s3.heap.push { cls := .type "dict", data := .dict #[] }) scope.names }
  have nfp : ∀ b ∈ fp, (upd H2 D (.lst [])) b = none := fun b hb => (f3 b hb).1.1
  generalize hce : compEnvC scope (cellsFrom (s3.heap.objs.size + 1) scope.names (cloFrom X.env.cells scope.names [])) s3.heap.objs.size X.env = ce at I4 pg pt pe ⊢
  have cL : ce.locals = s3.heap.objs.size := by subst hce; rfl
  generalize hH3 : upd H2 D (.lst []) = H3 at I3 I4 pg pt pe w0 nfp f3
  generalize hs4 : ({ s3 with heap := pushCells (s3.heap.push { cls := .type "dict", data := .dict #[] }) scope.names } : Shared) = s4 at I4 ⊢
  have st4 : tn 0 s4.heap := T.keep _ _ _ st3 fun b _ o e => by rw [← hs4]; exact pushCells_keeps _ _ _ _ (Heap.get?_push_of_some _ e)
  have stat : ∀ {σ' : St} {H' : Hp} {s' : Shared}, Inv (X.blk s3 H3 scope ce fp) [] σ' H' s' → (∀ b ∈ fp, H' b = none) → ∀ b ∈ fp, FpOk (X.blk s3 H3 scope ce fp) [] H' b := fun {σ' H' s'} I' hn b hb =>
    ⟨hn b hb, (I'.ok.exf b hb).1, I'.ok.exfs b hb, .inl hb, fun x c e => (I'.ok.exf b hb).2 x c e, fun p hp => absurd (show p ∈ ([] : List (Addr × Obj)) ++ [] from hp) (by simp)⟩
  have loop : codeAny (model X.prog X.w) X.A (.compLoop (.ListComp elt [⟨tg, iter, ifs, 0⟩] scope pos) 0 (.ref it) (.ref D) ce) (compPost (model X.prog X.w) X.A X.xe use Qf (.ref D) s3.heap.objs.size) s4 := by
    refine compLoop_any (fun n s' => ∃ i H', Inv (X.blk s3 H3 scope ce fp) [] (wipe σ (own.map (·.2))) H' s' ∧ tn i s'.heap ∧ (∀ b ∈ fp, H' b = none) ∧ W i n H') ?_ m0 ⟨0, H3, I4, st4, nfp, w0⟩
    rintro n s5 ⟨i, H5, I5, st5, n5, w5⟩
    rcases turn i n H5 w5 with ⟨stop, qq⟩ | ⟨go, Nx, hNx, step⟩
    · have td := T.done (X.blk s3 H3 scope ce fp) rfl rfl rfl hc i [] s5 _ H5 (fun _ _ => False) I5 (stat I5 n5) st5 stop
      refine thnF td fun r s6 ⟨hr, I6⟩ => ?_
      subst hr
      -- back in the def's context
      have I7 : Inv X pins σ H5 s6 := I3.call' (ch := fp) I6.os I6.base I6.hok I6.bare fun b hb => ⟨(f3 b hb).1.2.2.2.1, (f3 b hb).1.2.1, (f3 b hb).1.2.2.2.2.1, (f3 b hb).1.2.2.2.2.2⟩
      have nC : H5 s3.heap.objs.size = none := by
        have z : H5 ce.locals = none := I6.free
        rw [cL] at z
        exact z
      obtain ⟨m, hn, _⟩ := I6.loc
      have hn : s6.heap.Ns ce.locals m := hn
      rw [cL] at hn
      exact hRR D s3.heap.objs.size s6 m H5 I7 qq hn (I3.fpOk (Nat.le_refl _) nC)
    · have ti := T.item (X.blk s3 H3 scope ce fp) rfl rfl rfl hc i [] s5 _ H5 (fun _ _ => False) I5 (stat I5 n5) st5 go
      refine thnF ti fun r s6 ⟨u, hr, h6⟩ => ?_
      subst hr
      refine thnF h6 fun _ s7 ⟨x, H7, I7, r7, y7, st7, n7⟩ => ?_
      have I7' := I7.pinned (stat I7 n7) (T.obj _ _ st7)
      refine thnF (pg _ s7 _ H7 x u _ I7' r7 (step x H7 y7)) fun _ s8 ⟨σ8, H8, I8, hw8, q8⟩ => ?_
      refine thnF (pt _ s8 σ8 H8 _ I8 q8) fun b s9 ⟨H9, I9, q9⟩ => ?_
      -- the turn's end
      have fin : ∀ {s' : Shared} {H' : Hp}, Inv (X.blk s3 H3 scope ce fp) ([] ++ pinsAt fp s7.heap) σ8 H' s' → Nx H' → ∃ m, m < n ∧ ∃ i H', Inv (X.blk s3 H3 scope ce fp) [] (wipe σ (own.map (·.2))) H' s' ∧ tn i s'.heap ∧ (∀ b ∈ fp, H' b = none) ∧ W i m H' := fun {s' H'} I' nx => by
        obtain ⟨m', hm, w'⟩ := hNx H' nx
        have pin' : ∀ b ∈ fp, ∀ o, s7.heap.get? b = some o → s'.heap.get? b = some o ∧ H' b = none := fun b hb o e =>
          let z := I'.pin (b, o) (List.mem_append_right _ (List.mem_append_right _ (mem_pinsAt hb e)))
          ⟨z.1, z.2.1⟩
        have hl : (wipe σ (own.map (·.2))).length = σ8.length := by rw [← hw8, wipe_length]
        refine ⟨m', hm, i + 1, H', (I'.unpinned (pins := [])).weak hl (fun j v e => ?_), T.keep _ _ _ st7 fun b hb o e => (pin' b hb o e).1, fun b hb => ?_, w'⟩
        · rw [← hw8] at e
          exact (wipe_some e).1
        · obtain ⟨o, e, _⟩ := T.obj _ _ st7 b hb
          exact (pin' b hb o e).2
      cases b with
      | false =>
        simp only [Bool.false_eq_true, if_false] at q9 ⊢
        exact fin I9 q9
      | true =>
        simp only [if_true] at q9 ⊢
        refine thnF (pe _ s9 σ8 H9 _ I9 q9) fun z s10 ⟨yv, H10, I10, r10, acc, hD10, hz10, nx⟩ => ?_
        exact app_ok (X := X.blk s3 H3 scope ce fp) I10 hD10 hz10 r10 fun s11 I11 => fin I11 nx
  exact codeAny_compStart_list loop (T.self X.A 0 _ _ _ st4 loop)
/-- as a value -/
theorem pe_lc {elt tg iter : Expr} {ifs : List Expr} {scope : Scope} {own : List (Str × Nat)} {pos : Pos} {wi : TI} {g : TG} {tt : TT} {te : TE} (hc : X.calm = true) (hN : X.N.Nodup) (hi : PI X tg iter wi) (ok : BlkOk X.N X.env.scope scope own)
    (hg : ∀ (s : Shared) (H : Hp) (C : Addr) (cl : List (Str × Addr)) (fp : List Addr), PG (X.blk s H scope (compEnvC scope cl C X.env) fp) tg g) (ht : ∀ (s : Shared) (H : Hp) (C : Addr) (cl : List (Str × Addr)) (fp : List Addr), PTs (X.blk s H scope (compEnvC scope cl C X.env) fp) ifs tt)
    (he : ∀ (s : Shared) (H : Hp) (C : Addr) (cl : List (Str × Addr)) (fp : List Addr), PE (X.blk s H scope (compEnvC scope cl C X.env) fp) elt te) (hs : ∀ x, foldedSetIterable iter X.env x = pure x := by intro _; rfl) :
    PE X (.ListComp elt [⟨tg, iter, ifs, 0⟩] scope pos) (tLc wi g tt te (own.map (·.2))) := by
  intro pins s σ H Q I h
  rw [eval_ListComp]
  refine lc_core hc hN I hi ok hg ht he hs h fun D C s' m H' I' q hn f => ⟨m, hn, fun h'' sb => ?_⟩
  obtain ⟨f0, f1, f2, f3, f4, f5⟩ := f
  exact ⟨.ref D, H', I'.turned (t' := s'.toks) (fun b o hb e => (sb.2 b hb).trans e) f0 f1 f3 f4 f5, rfl, q⟩
end

/-! ### the forms one uses -/
/-- over a range: Pv by the turn and the heap (the new list at D within) -/
theorem lc_range {lo : Int} {n : Nat} {g : TG} {tt : TT} {te : TE} {vs : List Nat} {σ : St} {H1 : Hp} {D : Addr} {Qd : Hp → Prop} (Pv : Nat → Hp → Prop) (h0 : Pv 0 (upd H1 D (.lst [])))
    (hs : ∀ i H, i < n → Pv i H → g (.int (lo + i)) (wipe σ vs) H fun σ2 H2 => wipe σ2 vs = wipe σ vs ∧ tt σ2 H2 fun b H3 =>
      if b = true then te σ2 H3 fun y H4 => ∃ acc, H4 D = some (.lst acc) ∧ acc.length < sizeLine ∧ Pv (i + 1) (upd H4 D (.lst (acc ++ [y]))) else Pv (i + 1) H3) (hd : ∀ H, Pv n H → Qd H) :
    ∃ W : Nat → Nat → Hp → Prop, (∃ m, W 0 m (upd H1 D (.lst []))) ∧ ∀ i m H, W i m H →
      ((Itr lo n).stop i H ∧ Qd H) ∨ ((Itr lo n).go i H ∧ ∃ Nx : Hp → Prop, (∀ H', Nx H' → ∃ m', m' < m ∧ W (i + 1) m' H') ∧ ∀ x H', (Itr lo n).yld i H x H' → g x (wipe σ vs) H' fun σ2 H2 => wipe σ2 vs = wipe σ vs ∧ tt σ2 H2 fun b H3 =>
        if b = true then te σ2 H3 fun y H4 => ∃ acc, H4 D = some (.lst acc) ∧ acc.length < sizeLine ∧ Nx (upd H4 D (.lst (acc ++ [y]))) else Nx H3) := by
  refine ⟨fun i m H => m = n - i ∧ i ≤ n ∧ Pv i H, ⟨n, by simp, Nat.zero_le _, h0⟩, ?_⟩
  rintro i m H ⟨rfl, hi, p⟩
  by_cases hlt : i < n
  · refine .inr ⟨hlt, Pv (i + 1), fun H' p' => ⟨n - (i + 1), by omega, rfl, hlt, p'⟩, fun x H' y => ?_⟩
    obtain ⟨e, y⟩ := y
    subst e y
    exact hs i _ hlt p
  · have e : i = n := by omega
    subst e
    exact .inl ⟨Nat.le_refl _, hd H p⟩
/-- over a list that the block leaves as it is -/
theorem lc_list {K : PySem.W.Frag} {a : Addr} {xs : List V} {g : TG} {tt : TT} {te : TE} {vs : List Nat} {σ : St} {H1 : Hp} {D : Addr} {Qd : Hp → Prop} (Pv : Nat → Hp → Prop) (h0 : Pv 0 (upd H1 D (.lst []))) (hl : ∀ i H, i ≤ xs.length → Pv i H → SqL K H a xs)
    (hs : ∀ i x H, xs[i]? = some x → Pv i H → g x (wipe σ vs) H fun σ2 H2 => wipe σ2 vs = wipe σ vs ∧ tt σ2 H2 fun b H3 =>
      if b = true then te σ2 H3 fun y H4 => ∃ acc, H4 D = some (.lst acc) ∧ acc.length < sizeLine ∧ Pv (i + 1) (upd H4 D (.lst (acc ++ [y]))) else Pv (i + 1) H3) (hd : ∀ H, Pv xs.length H → Qd H) :
    ∃ W : Nat → Nat → Hp → Prop, (∃ m, W 0 m (upd H1 D (.lst []))) ∧ ∀ i m H, W i m H →
      ((Itl K a).stop i H ∧ Qd H) ∨ ((Itl K a).go i H ∧ ∃ Nx : Hp → Prop, (∀ H', Nx H' → ∃ m', m' < m ∧ W (i + 1) m' H') ∧ ∀ x H', (Itl K a).yld i H x H' → g x (wipe σ vs) H' fun σ2 H2 => wipe σ2 vs = wipe σ vs ∧ tt σ2 H2 fun b H3 =>
        if b = true then te σ2 H3 fun y H4 => ∃ acc, H4 D = some (.lst acc) ∧ acc.length < sizeLine ∧ Nx (upd H4 D (.lst (acc ++ [y]))) else Nx H3) := by
  refine ⟨fun i m H => m = xs.length - i ∧ i ≤ xs.length ∧ Pv i H, ⟨xs.length, by simp, Nat.zero_le _, h0⟩, ?_⟩
  rintro i m H ⟨rfl, hi, p⟩
  have q := hl i H hi p
  by_cases hlt : i < xs.length
  · refine .inr ⟨⟨xs, xs[i], q, by simp [hlt]⟩, Pv (i + 1), fun H' p' => ⟨xs.length - (i + 1), by omega, rfl, hlt, p'⟩, fun x H' y => ?_⟩
    obtain ⟨e, y⟩ := y
    subst e
    exact hs i x _ (y xs q) p
  · have e : i = xs.length := by omega
    subst e
    exact .inl ⟨⟨xs, q, Nat.le_refl _⟩, hd H p⟩
def blkC (N : List Str) (sc scope : Scope) (own : List (Str × Nat)) : Bool :=
  (match scope.kind with | .function => true | _ => false) && (scope.names.all fun y => decide (scope.names.lookup y.1 = some y.2)) && (own.all fun p => decide (N[p.2]? = some p.1)) &&
    (scope.names.all fun y => match y.2 with
      | .free => (match sc.names.lookup y.1 with | some .cell => true | some .free => true | _ => false)
      | .local => decide (y.1 ∈ own.map (·.1)) || decide (y.1 ∉ N)
      | .cell => decide (y.1 ∈ own.map (·.1)) || decide (y.1 ∉ N)
      | _ => true)
theorem blkOk_by {N : List Str} {sc scope : Scope} {own : List (Str × Nat)} (h : blkC N sc scope own = true) : BlkOk N sc scope own := by
  unfold blkC at h
  simp only [Bool.and_eq_true, List.all_eq_true, decide_eq_true_eq] at h
  obtain ⟨⟨⟨h1, h2⟩, h3⟩, h4⟩ := h
  refine ⟨?_, h2, h3, fun y hy e => ?_, fun y hy e => ?_⟩
  · split at h1
    · assumption
    · cases h1
  · have q := h4 y hy
    simp only [e] at q
    split at q <;> first | exact .inl (by assumption) | exact .inr (by assumption) | cases q
  · have q := h4 y hy
    rcases e with e | e <;> (simp only [e, Bool.or_eq_true, decide_eq_true_eq] at q; exact q)
end L2

namespace L2
open PySem PySem.Spec PyProof.Rows

section
variable {prog : Program} {w : World} {A : Around} {R : Result → Shared → Prop} {s : Shared} {elt t0 i0 t1 i1 : Expr} {ifs0 ifs1 : List Expr} {scope : Scope} {pos : Pos} {it acc : Value} {env : Env}
end

section
variable {X : Cx}
end
end L2

namespace L2
open PySem PySem.Spec PyProof.Rows

/-! ### lists of pairs as tables -/
section
variable {κ : Type} [DecidableEq κ]
def valV (kvs : List (κ × V)) (k : κ) : Option V := (kvs.find? fun kv => decide (kv.1 = k)).map (·.2)
/-- in its place, or at the end -/
def putK (kvs : List (κ × V)) (k : κ) (v : V) : List (κ × V) :=
  if (kvs.any fun kv => decide (kv.1 = k)) = true then kvs.map (fun kv => if kv.1 = k then (kv.1, v) else kv) else kvs ++ [(k, v)]
theorem valV_pos {p : κ × V} {r : List (κ × V)} {k : κ} (e : p.1 = k) : valV (p :: r) k = some p.2 := by simp [valV, List.find?_cons, e]
theorem valV_neg {p : κ × V} {r : List (κ × V)} {k : κ} (e : ¬ p.1 = k) : valV (p :: r) k = valV r k := by simp [valV, List.find?_cons, e]
theorem valV_any (k : κ) : ∀ kvs : List (κ × V), (kvs.any fun kv => decide (kv.1 = k)) = (valV kvs k).isSome
  | [] => rfl
  | p :: r => by
    rw [List.any_cons]
    by_cases e : p.1 = k
    · simp only [valV_pos e, decide_eq_true e, Bool.true_or, Option.isSome_some]
    · rw [valV_neg e, decide_eq_false e, Bool.false_or]; exact valV_any k r
theorem valV_map (k j : κ) (y : V) : ∀ kvs : List (κ × V), valV (kvs.map fun kv => if kv.1 = k then (kv.1, y) else kv) j = (valV kvs j).map fun x => if j = k then y else x
  | [] => rfl
  | p :: r => by
    have ih := valV_map k j y r
    rw [List.map_cons]
    by_cases h : p.1 = k
    · rw [if_pos h]
      by_cases e : p.1 = j
      · rw [valV_pos (p := (p.1, y)) e, valV_pos e, Option.map_some, if_pos (e.symm.trans h)]
      · rw [valV_neg (p := (p.1, y)) e, valV_neg e, ih]
    · rw [if_neg h]
      by_cases e : p.1 = j
      · rw [valV_pos (p := p) e, valV_pos e, Option.map_some, if_neg (fun z => h (e.trans z))]
      · rw [valV_neg (p := p) e, valV_neg e, ih]
theorem valV_snoc (k j : κ) (y : V) : ∀ kvs : List (κ × V), valV kvs k = none → valV (kvs ++ [(k, y)]) j = if j = k then some y else valV kvs j
  | [], _ => by
    by_cases e : k = j
    · rw [if_pos e.symm]; exact valV_pos (p := (k, y)) e
    · rw [if_neg (fun z => e z.symm)]; exact valV_neg (p := (k, y)) e
  | p :: r, hn => by
    rw [List.cons_append]
    have hk : ¬ p.1 = k := fun z => by rw [valV_pos z] at hn; cases hn
    rw [valV_neg hk] at hn
    have ih := valV_snoc k j y r hn
    by_cases e : p.1 = j
    · rw [valV_pos e, valV_pos e, if_neg (fun z => hk (e.trans z))]
    · rw [valV_neg e, valV_neg e, ih]
theorem valV_put (kvs : List (κ × V)) (k j : κ) (y : V) : valV (putK kvs k y) j = if j = k then some y else valV kvs j := by
  unfold putK
  by_cases a : (kvs.any fun kv => decide (kv.1 = k)) = true
  · rw [if_pos a, valV_map]
    rw [valV_any] at a
    by_cases e : j = k
    · obtain ⟨x, hx⟩ := Option.isSome_iff_exists.mp a
      rw [if_pos e, e, hx, Option.map_some, if_pos rfl]
    · rw [if_neg e]
      cases valV kvs j with
      | none => rfl
      | some x => rw [Option.map_some, if_neg e]
  · rw [if_neg a]
    refine valV_snoc k j y kvs ?_
    rw [valV_any] at a
    cases q : valV kvs k with
    | none => rfl
    | some x => rw [q] at a; exact (a rfl).elim
theorem length_putK (kvs : List (κ × V)) (k : κ) (v : V) : (putK kvs k v).length ≤ kvs.length + 1 := by
  unfold putK
  split
  · rw [List.length_map]; omega
  · rw [List.length_append, List.length_cons, List.length_nil]; omega
theorem RelO.isSome_eq {o : Option V} {u : Option Value} (r : RelO o u) : o.isSome = u.isSome := by
  cases o with
  | none => cases u with
    | none => rfl
    | some _ => exact (show False from r).elim
  | some _ => cases u with
    | none => exact (show False from r).elim
    | some _ => rfl
theorem RelO.getD {o : Option V} {u : Option Value} {d : V} {d' : Value} (r : RelO o u) (rd : RelV d d') : RelV (o.getD d) (u.getD d') := by
  cases o with
  | none => cases u with
    | none => exact rd
    | some _ => exact (show False from r).elim
  | some _ => cases u with
    | none => exact (show False from r).elim
    | some _ => exact r

/-- raw tables of the same keys -/
theorem KV.val {kvs : List (κ × V)} {vs : List (κ × Value)} (r : KV kvs vs) (k : κ) : RelO (valV kvs k) (valueAt vs k) := by
  unfold KV at r
  induction r with
  | nil => exact True.intro
  | @cons p q ps qs h t ih =>
    obtain ⟨h1, h2⟩ := h
    by_cases e : p.1 = k
    · have e' : q.1 = k := h1.symm.trans e
      have b : valueAt (q :: qs) k = some q.2 := by simp [valueAt, List.find?_cons, e']
      rw [valV_pos e, b]; exact h2
    · have e' : ¬ q.1 = k := fun z => e (h1.trans z)
      have b : valueAt (q :: qs) k = valueAt qs k := by simp [valueAt, List.find?_cons, e']
      rw [valV_neg e, b]; exact ih
theorem KV.any {kvs : List (κ × V)} {vs : List (κ × Value)} (r : KV kvs vs) (k : κ) : (kvs.any fun kv => decide (kv.1 = k)) = vs.any fun kv => decide (kv.1 = k) := by
  unfold KV at r
  induction r with
  | nil => rfl
  | cons h t ih => rw [List.any_cons, List.any_cons, ih, h.1]
theorem KV.repl {kvs : List (κ × V)} {vs : List (κ × Value)} (r : KV kvs vs) (k : κ) {y : V} {u : Value} (ry : RelV y u) :
    KV (kvs.map fun kv => if kv.1 = k then (kv.1, y) else kv) (vs.map fun kv => if kv.1 = k then (kv.1, u) else kv) := by
  unfold KV at r ⊢
  induction r with
  | nil => exact .nil
  | @cons p q ps qs h t ih =>
    rw [List.map_cons, List.map_cons]
    refine .cons ?_ ih
    obtain ⟨h1, h2⟩ := h
    by_cases e : p.1 = k
    · rw [if_pos e, if_pos (h1.symm.trans e)]; exact ⟨h1, ry⟩
    · rw [if_neg e, if_neg (fun z => e (h1.trans z))]; exact ⟨h1, h2⟩
theorem KV.put {kvs : List (κ × V)} {vs : List (κ × Value)} (r : KV kvs vs) (k : κ) {y : V} {u : Value} (ry : RelV y u) : KV (putK kvs k y) (stored vs k u) := by
  unfold putK stored
  rw [r.any k]
  by_cases e : (vs.any fun kv => decide (kv.1 = k)) = true
  · rw [if_pos e, if_pos e]; exact r.repl k ry
  · rw [if_neg e, if_neg e]; exact Paired.snoc r ⟨rfl, ry⟩
theorem KV.length {kvs : List (κ × V)} {vs : List (κ × Value)} (r : KV kvs vs) : kvs.length = vs.length := Paired.length r
end


/-! ### a tracked dict, its keys ints and texts or tuples of these -/
theorem kV_is {P : Program} {w : World} {k : Key} {u : Value} (r : RelV (kV k) u) : (mixKind P w).is k u = true := by
  cases k with
  | inl i => obtain ⟨t, e⟩ := (show ∃ t, u = Value.int i t from r); subst e; exact mixKind_int P w i t
  | inr x => obtain ⟨t, e⟩ := (show ∃ t, u = Value.str x t from r); subst e; exact mixKind_str P w x t
theorem items_are {P : Program} {w : World} : ∀ {ks : List Key} {us : List Value}, Vals (ks.map kV) us → ItemsAre (mixKind P w) ks us
  | [], _, r => by rw [List.map_nil] at r; cases r; exact .nil
  | k :: ks, _, r => by
    rw [List.map_cons] at r
    cases r with
    | cons h t => exact .cons (kV_is h) (items_are t)

/-- raw entries of a dict with tuple keys -/
abbrev KT (H : Hp) : List (List Key × V) → List (List Key × Addr × Value) → Prop := Paired fun p q => p.1 = q.1 ∧ H q.2.1 = some (.tup (p.1.map kV)) ∧ RelV p.2 q.2.2
theorem KT.val {H : Hp} {kvs : List (List Key × V)} {xs : List (List Key × Addr × Value)} (r : KT H kvs xs) (k : List Key) : RelO (valV kvs k) ((atKey xs k).map (·.2)) := by
  induction r with
  | nil => exact True.intro
  | @cons p q ps qs h t ih =>
    obtain ⟨h1, _, h2⟩ := h
    by_cases e : p.1 = k
    · have e' : q.1 = k := h1.symm.trans e
      have b : atKey (q :: qs) k = some q.2 := by simp [atKey, List.find?_cons, e']
      rw [valV_pos e, b]; exact h2
    · have e' : ¬ q.1 = k := fun z => e (h1.trans z)
      have b : atKey (q :: qs) k = atKey qs k := by simp [atKey, List.find?_cons, e']
      rw [valV_neg e, b]; exact ih
theorem KT.repl {H : Hp} {kvs : List (List Key × V)} {xs : List (List Key × Addr × Value)} (r : KT H kvs xs) (k : List Key) {y : V} {u : Value} (ry : RelV y u) :
    KT H (kvs.map fun kv => if kv.1 = k then (kv.1, y) else kv) (xs.map (putAt k u)) := by
  induction r with
  | nil => exact .nil
  | @cons p q ps qs h t ih =>
    rw [List.map_cons, List.map_cons]
    refine .cons ?_ ih
    obtain ⟨h1, h2, h3⟩ := h
    unfold putAt
    by_cases e : p.1 = k
    · rw [if_pos e, if_pos (h1.symm.trans e)]; exact ⟨h1, h2, ry⟩
    · rw [if_neg e, if_neg (fun z => e (h1.trans z))]; exact ⟨h1, h2, h3⟩
theorem KT.put {H : Hp} {kvs : List (List Key × V)} {xs : List (List Key × Addr × Value)} (r : KT H kvs xs) (k : List Key) {b : Addr} {y : V} {u : Value} (hb : H b = some (.tup (k.map kV))) (ry : RelV y u) :
    KT H (putK kvs k y) (storedH xs k b u) := by
  have e : (kvs.any fun kv => decide (kv.1 = k)) = (atKey xs k).isSome := by
    rw [valV_any, (r.val k).isSome_eq, Option.isSome_map]
  unfold putK storedH
  rw [e]
  by_cases q : (atKey xs k).isSome = true
  · rw [if_pos q, if_pos q]; exact r.repl k ry
  · rw [if_neg q, if_neg q]; exact Paired.snoc r ⟨rfl, hb, ry⟩
theorem KT.keeps {H H' : Hp} {kvs : List (List Key × V)} {xs : List (List Key × Addr × Value)} (r : KT H kvs xs) (ht : ∀ b ys, H b = some (.tup ys) → H' b = some (.tup ys)) : KT H' kvs xs :=
  Paired.mapP r fun _ _ z => ⟨z.1, ht _ _ z.2.1, z.2.2⟩

section
variable {P : Program} {w : World} {H : Hp} {h : Heap} {a : Addr}
theorem rd_of {u : HO} (ok : HOk P w H h) (e : Rd H a u) : ObjOk P w H h a u := e.ok ok
theorem dk_rd {kvs : List (Key × V)} (ok : HOk P w H h) (e : Rd H a (.dK kvs)) : kvs.length ≤ sizeLine ∧ (a == sysModules) = false ∧ ∃ vs, KV kvs vs ∧ h.DictOf (mixKind P w) a vs :=
  show ObjOk P w H h a (.dK kvs) from rd_of ok e
theorem dk_of {kvs : List (Key × V)} (ok : HOk P w H h) (e : H a = some (.dK kvs)) : kvs.length ≤ sizeLine ∧ (a == sysModules) = false ∧ ∃ vs, KV kvs vs ∧ h.DictOf (mixKind P w) a vs := dk_rd ok (.inl e)
/-- a tracked tuple of ints and texts is a key -/
theorem key_of {ks : List Key} (ok : HOk P w H h) (e : H a = some (.tup (ks.map kV))) : (tupleKind (mixKind P w)).is h ks a := by
  obtain ⟨_, its, r, o, h1, h2, n, h3⟩ := (show ObjOk P w H h a (.tup (ks.map kV)) from ok a _ e)
  exact ⟨o, its.toArray, n, h1, h2, h3, by simpa using items_are r⟩
theorem dt_rd {kvs : List (List Key × V)} (ok : HOk P w H h) (e : Rd H a (.dT kvs)) : kvs.length ≤ sizeLine ∧ (a == sysModules) = false ∧
    ∃ xs, KT H kvs xs ∧ h.DictOfH (tupleKind (mixKind P w)) a xs := by
  obtain ⟨z, y, xs, r, o, es, ep, h1, h2, h3, h4, h5⟩ := (show ObjOk P w H h a (.dT kvs) from rd_of ok e)
  refine ⟨z, y, xs, r, o, es, ep, h1, h2, h3, h4, fun x hx => ?_, h5⟩
  have all : ∀ {l : List (List Key × V)} {m : List (List Key × Addr × Value)}, KT H l m → ∀ x ∈ m, (tupleKind (mixKind P w)).is h x.1 x.2.1 := by
    intro l m q
    induction q with
    | nil => intro x hx; exact nomatch hx
    | @cons p q ps qs hq t ih =>
      intro x hx
      rcases List.mem_cons.mp hx with e | hx
      · subst e
        exact key_of ok (by rw [← hq.1]; exact hq.2.1)
      · exact ih x hx
  exact all r x hx
theorem dt_of {kvs : List (List Key × V)} (ok : HOk P w H h) (e : H a = some (.dT kvs)) : kvs.length ≤ sizeLine ∧ (a == sysModules) = false ∧
    ∃ xs, KT H kvs xs ∧ h.DictOfH (tupleKind (mixKind P w)) a xs := dt_rd ok (.inl e)
end

/-- what the dict at a holds at the key y -/
def DGet (H : Hp) (a : Addr) (y : V) (r : Option V) : Prop :=
  (∃ kvs k, Rd H a (.dK kvs) ∧ y = kV k ∧ r = valV kvs k) ∨ ∃ kvs k b, Rd H a (.dT kvs) ∧ y = .ref b ∧ H b = some (.tup (k.map kV)) ∧ r = valV kvs k
/-- the heap behind a[y] = v -/
def DPut (H : Hp) (a : Addr) (y v : V) (H' : Hp) : Prop :=
  (∃ kvs k, H a = some (.dK kvs) ∧ y = kV k ∧ kvs.length < sizeLine ∧ H' = upd H a (.dK (putK kvs k v))) ∨
  ∃ kvs k b, H a = some (.dT kvs) ∧ y = .ref b ∧ H b = some (.tup (k.map kV)) ∧ kvs.length < sizeLine ∧ H' = upd H a (.dT (putK kvs k v))
theorem DGet.t {H : Hp} {a b : Addr} {kvs : List (List Key × V)} {k : List Key} (e : H a = some (.dT kvs)) (eb : H b = some (.tup (k.map kV))) : DGet H a (.ref b) (valV kvs k) := .inr ⟨kvs, k, b, .inl e, rfl, eb, rfl⟩
theorem DPut.t {H : Hp} {a b : Addr} {kvs : List (List Key × V)} {k : List Key} {v : V} (e : H a = some (.dT kvs)) (eb : H b = some (.tup (k.map kV))) (hl : kvs.length < sizeLine) :
    DPut H a (.ref b) v (upd H a (.dT (putK kvs k v))) := .inr ⟨kvs, k, b, e, rfl, eb, hl, rfl⟩


section
variable {X : Cx} {pins : List (Addr × Obj)} {σ : St} {H : Hp} {s : Shared} {a : Addr} {y v : V} {u r : Value} {o : Option V} {A : Around} {E : Value → Shared → Prop}

theorem Inv.big (I : Inv X pins σ H s) : sysModules < s.heap.objs.size := by
  have h : mainGlobals < s.heap.objs.size := (I.mod.glob.keeps I.bk).lt
  exact Nat.lt_trans (by decide) h

/-- d[y], there -/
theorem d_getItem {Q : Value → Shared → Prop} (hu : A.units + 1 < cLine) (I : Inv X pins σ H s) (g : DGet H a y (some v)) (ry : RelV y u) (h : ∀ w' s', Inv X pins σ H s' → RelV v w' → Q w' s') :
    wpAny (model X.prog X.w) A (getItem (.ref a) u) Q E s := by
  rcases g with ⟨kvs, k, e, ey, l⟩ | ⟨kvs, k, b, e, ey, eb, l⟩
  · subst ey
    obtain ⟨z, hd, vs, rel, dd⟩ := dk_rd I.hok e
    obtain ⟨w', hw, rw'⟩ := RelO.some_of (v := v) (o := valueAt vs k) (by rw [l]; exact rel.val k)
    exact wpAny_getItem_of (kV_is ry) dd.mapOf hw (h w' _ (I.tok _) rw')
  · subst ey
    cases (show u = Value.ref b from ry)
    obtain ⟨z, hd, xs, rel, dd⟩ := dt_rd I.hok e
    obtain ⟨w', hw, rw'⟩ := RelO.some_of (v := v) (o := (atKey xs k).map (·.2)) (by rw [l]; exact rel.val k)
    obtain ⟨p, hp, hp2⟩ := Option.map_eq_some_iff.mp hw
    refine wpAny_getItem_heap (tupleKind_room_in1 hu) (key_of I.hok eb) dd hp ?_
    rw [hp2]
    exact h w' _ (I.tok _) rw'
/-- a dict's object is replaced -/
theorem d_write {h' : Heap} {t' : Nat} {ob : HO} (I : Inv X pins σ H s) (mu : Mut (H a)) (hs : Heap.SameBut a s.heap h') (he : ∃ q, h'.get? a = some q) (new : ObjOk X.prog X.w (upd H a ob) h' a ob) :
    Inv X pins σ (upd H a ob) { s with heap := h', toks := t' } :=
  I.write (x := a) (e := a) mu (.inl rfl) (fun b q hb z => (hs.2 b hb).trans z) he new
theorem dk_new {P : Program} {w : World} {H' : Hp} {h' : Heap} {kvs : List (Key × V)} {vs : List (Key × Value)} (z : kvs.length ≤ sizeLine) (hd : (a == sysModules) = false) (rel : KV kvs vs) (dd : h'.DictOf (mixKind P w) a vs) :
    ObjOk P w H' h' a (.dK kvs) := ⟨z, hd, vs, rel, dd⟩
/-- d[y] = v -/
theorem d_setItem {H' : Hp} {Q : Unit → Shared → Prop} (hu : A.units + 1 < cLine) (I : Inv X pins σ H s) (g : DPut H a y v H') (ry : RelV y u) (rv : RelV v r) (h : ∀ s', Inv X pins σ H' s' → Q () s') :
    wpAny (model X.prog X.w) A (setItem (.ref a) u r) Q E s := by
  rcases g with ⟨kvs, k, e, ey, l, eH⟩ | ⟨kvs, k, b, e, ey, eb, l, eH⟩
  · subst ey eH
    obtain ⟨z, hd, vs, rel, dd⟩ := dk_of I.hok e
    have hz : vs.length ≤ sizeLine := by rw [← rel.length]; exact z
    have hl : (putK kvs k v).length ≤ sizeLine := by have := length_putK kvs k v; omega
    refine wpAny_setItem_pairs (hsz := hz) (kV_is ry) dd fun h' dd' hs => h _ ?_
    have he : ∃ q, h'.get? a = some q := let ⟨q, _, _, hq, _⟩ := dd'; ⟨q, hq⟩
    exact d_write I (by rw [e]; exact True.intro) hs he (dk_new hl hd (rel.put k rv) dd')
  · subst ey eH
    cases (show u = Value.ref b from ry)
    obtain ⟨z, hd, xs, rel, dd⟩ := dt_of I.hok e
    have hz : xs.length ≤ sizeLine := by rw [← Paired.length rel]; exact z
    have hl : (putK kvs k v).length ≤ sizeLine := by have := length_putK kvs k v; omega
    refine wpAny_setItem_heap (hsz := hz) (tupleKind_room_in1 hu) (key_of I.hok eb) dd fun h' dd' hs => h _ ?_
    obtain ⟨q, es, ep, hq, h2, h3, h4, _, h5⟩ := dd'
    refine d_write I (by rw [e]; exact True.intro) hs ⟨q, hq⟩ ⟨hl, hd, _, (rel.put k eb rv).keeps fun c ys ec => ?_, q, es, ep, hq, h2, h3, h4, h5⟩
    rw [upd_ne (ne_of ec e (fun z => nomatch z))]
    exact ec
end

section
variable {X : Cx} {pins : List (Addr × Obj)} {σ : St} {H : Hp} {s : Shared} {a : Addr} {kvs : List (Key × V)} {k : Key} {u : Value} {A : Around} {E : Value → Shared → Prop}
end


/-! ### readings and rules -/
/-- the element of a subscription, not a slice -/
def NoSl (i : Expr) : Prop := ∀ ov iv, subscripted i false ov iv = operate [ov, iv] (getItem ov iv)
theorem subD_of {prog : Program} {w : World} {A : Around} {E : Value → Shared → Prop} {s : Shared} {env : Env} {value slice : Expr} {pos : Pos} {T id : String} {Q : Value → Shared → Prop}
    (hl : typeLookup (.type T) "__getitem__" = pure (some (.builtin id))) (hs : NoSl slice)
    (h : wpAny (model prog w) A (eval value env) (fun o s₁ => wpAny (model prog w) A (eval slice env) (fun i s₂ => s₂.TypeIs o T ∧ wpAny (model prog w) A (getItem o i) Q E s₂) E s₁) E s) :
    wpAny (model prog w) A (eval (.Subscript value slice pos) env) Q E s := by
  refine Subscript_ (wpAny_mono h (fun o s₁ h₁ => wpAny_mono h₁ (fun i s₂ h₂ => ?_) fun _ _ x => x) fun _ _ x => x)
  obtain ⟨hT, h₂⟩ := h₂
  unfold subscriptTail
  refine wpAny_bind ?_
  rw [getitemInPython_of_ne hT.not_modules]
  refine wpAny_bind (wpAny_specialOf hT hl ?_)
  have fin : wpAny (model prog w) A (subscripted slice false o i) (fun r s₃ => wpAny (model prog w) A (letTemporaryGo value o r >>= fun _ => pure r) Q E s₃) E s₂ := by
    rw [hs o i]
    exact wpAny_operating (wpAny_mono h₂ (fun r s₃ h₃ => wpAny_bind (wpAny_letTemporaryGo (wpAny_pure h₃))) fun _ _ x => x)
  first
    | exact wpAny_pure (wpAny_bind fin)
    | exact wpAny_bind (wpAny_pure (wpAny_bind fin))
    | exact wpAny_bind fin

theorem dict_typeIs {X : Cx} {pins : List (Addr × Obj)} {σ : St} {H : Hp} {s : Shared} {a : Addr} {y : V} {o : Option V} (I : Inv X pins σ H s) (g : DGet H a y o) : s.TypeIs (.ref a) "dict" := by
  rcases g with ⟨kvs, k, e, _, _⟩ | ⟨kvs, k, b, e, _, _, _⟩
  · obtain ⟨_, _, vs, _, dd⟩ := dk_rd I.hok e
    exact dd.typeIs
  · obtain ⟨_, _, xs, _, dd⟩ := dt_rd I.hok e
    exact dd.typeIs
/-- d[y] -/
def tDGet (td ty : TE) : TE := fun σ H Q => td σ H fun x H1 => ty σ H1 fun y H2 => ∃ a v, x = .ref a ∧ DGet H2 a y (some v) ∧ Q v H2
/-- d[y] = v -/
def sDPut (td ty tv : TE) : TS := fun D σ H => tv σ H fun v H1 => td σ H1 fun x H2 => ty σ H2 fun y H3 => ∃ a H4, x = .ref a ∧ DPut H3 a y v H4 ∧ D.nx σ H4
section
variable {X : Cx} {o i e value : Expr} {pos pos' tpos : Pos} {td ty tv : TE}
theorem pe_dget (hu : X.A.units + 1 < cLine) (ho : PE X o td) (hi : PE X i ty) (hs : NoSl i) : PE X (.Subscript o i pos) (tDGet td ty) := by
  intro pins s σ H Q I h
  refine subD_of PySem.F.slot_dict_getitem.lookup hs (thn (ho pins s σ H _ I h) fun u s1 ⟨x, H1, I1, rx, q1⟩ => thn (hi pins s1 σ H1 _ I1 q1) fun iv s2 ⟨y, H2, I2, ry, a, v, ex, g, q2⟩ => ?_)
  subst ex
  obtain rfl : u = Value.ref a := rx
  exact ⟨dict_typeIs I2 g, d_getItem hu I2 g ry fun w' s3 I3 rw' => ⟨v, H2, I3, rw', q2⟩⟩
theorem ps_dput (hu : X.A.units + 1 < cLine) (ho : PE X o td) (hi : PE X i ty) (hv : PE X value tv) (hs : swapsWith value (some (.Subscript o i pos')) pos.line X.env = pure false) :
    PS X (.Assign [.Subscript o i pos'] value pos) (sDPut td ty tv) := by
  intro pins s σ H D I h
  refine wpAny_Assign_Subscript (thn (hv pins s σ H _ I h) fun r s1 ⟨v, H1, I1, rv, q1⟩ => thn (ho pins s1 σ H1 _ I1 q1) fun u s2 ⟨x, H2, I2, rx, q2⟩ => thn (hi pins s2 σ H2 _ I2 q2) fun iv s3 ⟨y, H3, I3, ry, a, H4, ex, g, q3⟩ => ?_) hs
  subst ex
  obtain rfl : u = Value.ref a := rx
  exact d_setItem hu I3 g ry rv fun s4 I4 => ⟨σ, H4, I4, q3⟩
end


/-! ### displays -/
theorem dt_empty {P : Program} {w : World} {H : Hp} (h : Heap) (hb : sysModules < h.objs.size) : ObjOk P w H (h.push { cls := .type "dict", data := .dict #[] }) h.objs.size (.dT []) :=
  ⟨Nat.zero_le _, beq_eq_false_iff_ne.mpr (Ne.symm (Nat.ne_of_lt hb)), [], .nil, _, #[], 0, Heap.get?_push_size _ rfl, ⟨rfl, rfl, rfl⟩, rfl, rfl, List.nodup_nil⟩
def tDNewT : TE := fun _ H Q => ∀ p, H p = none → Q (.ref p) (upd H p (.dT []))
section
variable {X : Cx} {pos : Pos}
theorem pe_dnewT : PE X (.Dict [] [] pos) tDNewT := fun pins s σ H Q I h =>
  wpAny_Dict_empty ⟨.ref s.heap.objs.size, _, I.laid (a := s.heap.objs.size) (o := .dT []) (t' := s.toks) (fun _ _ q => Heap.get?_push_of_some _ q) (Nat.le_refl _) (dt_empty s.heap I.big), rfl, h _ (I.hok.fresh (Nat.le_refl _))⟩
end

/-! ### methods -/
structure M2 (X : Cx) (o : Expr) (m : Str) (apos : Pos) (e f : Expr) (cpos : Pos) : Prop where
  base : attributeBase o m X.env (eval o X.env) = eval o X.env
  few : ((backTo cpos (starEach [e, f] X.env)).all (fun x => !x.1) && (backToKw cpos (keywordEach [] X.env)).all (fun x => x.1.isSome)
    && decide (([e, f] : List Expr).length + ([] : List Keyword).length + (if ([] : List Keyword).isEmpty then 0 else 1) < 30)) = true
  line : (apos.endLine == cpos.line) = true
  trees : backTo cpos (starEach [e, f] X.env) = [(false, eval e X.env), (false, eval f X.env)]

/-- a is a dict, whatever its keys -/
def IsD (H : Hp) (a : Addr) : Prop := (∃ kvs, Rd H a (.dK kvs)) ∨ ∃ kvs, Rd H a (.dT kvs)
theorem isD_at {X : Cx} {pins : List (Addr × Obj)} {σ : St} {H : Hp} {s : Shared} {a : Addr} (I : Inv X pins σ H s) (d : IsD H a) :
    s.TypeIs (.ref a) "dict" ∧ (∀ b, Value.ref a = .ref b → ∃ ob, s.heap.get? b = some ob ∧ ob.dict = none) ∧ (a == sysModules) = false := by
  rcases d with ⟨kvs, e⟩ | ⟨kvs, e⟩
  · obtain ⟨_, hd, vs, _, dd⟩ := dk_rd I.hok e
    refine ⟨dd.typeIs, fun b q => ?_, hd⟩
    cases q
    obtain ⟨ob, _, _, h1, h2, _⟩ := dd
    exact ⟨ob, h1, h2.2.1⟩
  · obtain ⟨_, hd, xs, _, dd⟩ := dt_rd I.hok e
    refine ⟨dd.typeIs, fun b q => ?_, hd⟩
    cases q
    obtain ⟨ob, _, _, h1, h2, _⟩ := dd
    exact ⟨ob, h1, h2.2.1⟩

section
variable {X : Cx} {pins : List (Addr × Obj)} {σ : St} {H : Hp} {s : Shared} {a : Addr} {y d : V} {u r : Value} {o : Option V} {A : Around} {E : Value → Shared → Prop}
/-- d.get(y, x) -/
theorem d_get2 {Q : Value → Shared → Prop} (hu : A.units + 1 < cLine) (I : Inv X pins σ H s) (g : DGet H a y o) (ry : RelV y u) (rd : RelV d r) (h : ∀ w' s', Inv X pins σ H s' → RelV (o.getD d) w' → Q w' s') :
    wpAny (model X.prog X.w) A (call (.builtin "dict.get") [.ref a, u, r]) Q E s := by
  rcases g with ⟨kvs, k, e, ey, l⟩ | ⟨kvs, k, b, e, ey, eb, l⟩
  · subst ey
    obtain ⟨z, hd, vs, rel, dd⟩ := dk_rd I.hok e
    refine call_meetsIn PySem.F.slot_dict_get dd.typeIs PySem.F.entry_dict_get (PySem.F.args_dict_get_3 _ _ _) (meets_dict_get_default (mixKind X.prog X.w) a (kV_is ry) hd r) ⟨_, dd.mapOf, h _ _ (I.tok _) ?_⟩
    rw [l]
    exact (rel.val k).getD rd
  · subst ey
    cases (show u = Value.ref b from ry)
    obtain ⟨z, hd, xs, rel, dd⟩ := dt_rd I.hok e
    refine call_meetsIn PySem.F.slot_dict_get dd.typeIs PySem.F.entry_dict_get (PySem.F.args_dict_get_3 _ _ _) (meetsH_dict_get_default (tupleKind (mixKind X.prog X.w)) a b hd r) ⟨tupleKind_room_in1 hu, k, xs, key_of I.hok eb, dd, h _ _ (I.tok _) ?_⟩
    rw [l]
    exact (rel.val k).getD rd
end

def tDGet2 (td ty tx : TE) : TE := fun σ H Q => td σ H fun x H1 => ∃ a, x = .ref a ∧ IsD H1 a ∧ ty σ H1 fun y H2 => tx σ H2 fun z H3 => ∃ o, DGet H3 a y o ∧ Q (o.getD z) H3
section
variable {X : Cx} {o e f : Expr} {apos cpos : Pos} {td ty tx : TE}
theorem pe_dget2 (hu : X.A.units + 1 < cLine) (ho : PE X o td) (he : PE X e ty) (hf : PE X f tx) (m : M2 X o "get" apos e f cpos) : PE X (.Call (.Attribute o "get" apos) [e, f] [] cpos) (tDGet2 td ty tx) := by
  intro pins s σ H Q I h
  refine wpAny_Call_method m.base m.few m.line PySem.F.plainAttrs_dict PySem.F.slot_dict_get PySem.F.type_dict_get (thn (ho pins s σ H _ I h) fun u s1 ⟨x, H1, I1, rx, a, ex, d, q1⟩ => ?_)
  subst ex
  obtain rfl : u = Value.ref a := rx
  obtain ⟨t1, t2, _⟩ := isD_at I1 d
  refine ⟨t1, t2, ?_⟩
  rw [m.trees]
  refine Calls.callWith_builtin rfl (Calls.evalArgs_plain (Calls.spliced_cons (thn (he pins s1 σ H1 _ I1 q1) fun iv s2 ⟨y, H2, I2, ry, q2⟩ =>
    Calls.spliced_cons (thn (hf pins s2 σ H2 _ I2 q2) fun fv s3 ⟨z, H3, I3, rz, ov, g, q3⟩ => Calls.spliced_nil ?_))))
  exact d_get2 hu I3 g ry rz fun w' s4 I4 rw' => ⟨_, H3, I4, rw', q3⟩
end

/-! ### dict(d): a copy -/
section
variable {X : Cx} {pins : List (Addr × Obj)} {σ : St} {H : Hp} {s : Shared} {a : Addr} {kvs : List (Key × V)} {A : Around} {E : Value → Shared → Prop}
end


section
variable {X : Cx} {pins : List (Addr × Obj)} {σ : St} {H : Hp} {s : Shared} {a : Addr} {y : V} {u : Value} {A : Around} {E : Value → Shared → Prop}
end
end L2

namespace L2
open PySem PySem.Spec PyProof.Rows

section
variable {prog : Program} {w : World} {A : Around} {E : Value → Shared → Prop}
end

section
variable {X : Cx}
end
end L2

namespace L2
open PySem PySem.Spec PyProof.Rows

section
variable {X : Cx} {pins : List (Addr × Obj)} {σ : St} {H : Hp} {s : Shared} {h' : Heap}
/-! ### locking a thing while a statement runs -/
theorem Inv.lock {d : Addr} {u : HO} (I : Inv X pins σ H s) (h : H d = some u) (mu : Mut (some u)) : ∃ od, Inv X pins σ (upd H d (.frz od u)) s := by
  have x := I.hok d u h
  have ex : ∃ od, s.heap.get? d = some od := by
    cases u with
    | lst xs => obtain ⟨_, _, _, _, e⟩ := x; exact ⟨_, e⟩
    | dK kvs => obtain ⟨_, _, _, _, o, _, _, e, _⟩ := x; exact ⟨o, e⟩
    | dT kvs => obtain ⟨_, _, _, _, o, _, _, e, _⟩ := x; exact ⟨o, e⟩
    | set S n => obtain ⟨o, _, _, _, e, _⟩ := x; exact ⟨o, e⟩
    | ins C dx fs => obtain ⟨_, _, _, e, _⟩ := x; exact ⟨_, e⟩
    | ext φ => obtain ⟨_, ⟨_, e⟩, _⟩ := x; exact ⟨_, e⟩
    | _ => exact False.elim mu
  obtain ⟨od, e⟩ := ex
  have new : ObjOk X.prog X.w (upd H d (.frz od u)) s.heap d (.frz od u) := by
    refine ⟨e, x.stay (fun b v _ q => q) (fun b q => ?_) fun b xs q => ?_⟩
    · rw [upd_ne (fun z => by rw [z, h] at q; cases q; exact mu)]; exact q
    · rw [upd_ne (fun z => by rw [z, h] at q; cases q; exact mu)]; exact q
  exact ⟨od, I.write (x := d) (e := d) (t' := s.toks) (h' := s.heap) (by rw [h]; exact mu) (.inl rfl) (fun b v _ q => q) ⟨od, e⟩ new⟩
theorem Inv.nofrz {d : Addr} {u : HO} (I : Inv X pins σ H s) (h : H d = some u) (mu : Mut (some u)) : ∀ o' u', X.H_0 d ≠ some (.frz o' u') := fun o' u' e => by
  have q := I.base.frzs d o' u' e
  rw [h] at q
  cases q
  exact mu
theorem Inv.unlock {d : Addr} {od : Obj} {u : HO} (I : Inv X pins σ H s) (h : H d = some (.frz od u)) (hn : ∀ o' u', X.H_0 d ≠ some (.frz o' u')) : Inv X pins σ (upd H d u) s := by
  have neH : ∀ b o, H b = some o → (∀ o' u', o ≠ .frz o' u') → b ≠ d := fun b o e hne z => by
    rw [z, h] at e
    cases e
    exact hne _ _ rfl
  have neN : ∀ b, H b = none → b ≠ d := fun b e z => by rw [z, h] at e; cases e
  refine ⟨I.ok, I.os, I.bare, ⟨I.base.keep, I.base.slot, fun b o e n hx => ?_, I.base.there, fun b xs e => ?_, fun b o x e => ?_, fun b ps e => ?_⟩, I.loc, I.cell, ?_, fun x c e => ?_, fun p hp => ?_, fun b o e => ?_, I.len⟩
  · rw [upd_ne (neN b (I.base.free b o e n hx))]; exact I.base.free b o e n hx
  · have q := I.base.tups b xs e
    rw [upd_ne (neH b _ q (fun _ _ z => nomatch z))]; exact q
  · have q := I.base.frzs b o x e
    rw [upd_ne (fun z => by rw [z] at e; exact hn _ _ e)]; exact q
  · obtain ⟨m, q⟩ := I.base.tbls b ps e
    exact ⟨m, by rw [upd_ne (neH b _ q (fun _ _ z => nomatch z))]; exact q⟩
  · rw [upd_ne (neN _ I.free)]; exact I.free
  · rw [upd_ne (neN c (I.freeC x c e))]; exact I.freeC x c e
  · obtain ⟨e, n, r⟩ := I.pin p hp
    exact ⟨e, by rw [upd_ne (neN _ n)]; exact n, r⟩
  · by_cases hb : b = d
    · rw [hb, upd_same] at e
      cases e
      rw [hb]
      obtain ⟨_, x⟩ := I.hok d _ h
      exact x.stay (fun c v _ q => q) (fun c q => by rw [upd_ne (neH c _ q (fun _ _ z => nomatch z))]; exact q) fun c xs q => by rw [upd_ne (neH c _ q (fun _ _ z => nomatch z))]; exact q
    · rw [upd_ne hb] at e
      exact (I.hok b o e).stay (fun c v _ q => q) (fun c q => by rw [upd_ne (neH c _ q (fun _ _ z => nomatch z))]; exact q) fun c xs q => by rw [upd_ne (neH c _ q (fun _ _ z => nomatch z))]; exact q
end
def tLockE (t : TE) : TE := fun σ H Q => ∃ d u, H d = some u ∧ Mut (some u) ∧ ∀ od, t σ (upd H d (.frz od u)) fun v H' => H' d = some (.frz od u) ∧ Q v (upd H' d u)
section
variable {X : Cx}
theorem pe_lock {e : Expr} {t : TE} (h : PE X e t) : PE X e (tLockE t) := by
  intro pins s σ H Q I hw
  obtain ⟨d, u, hd, mu, hw⟩ := hw
  obtain ⟨od, I1⟩ := I.lock hd mu
  refine thn (h pins s σ _ _ I1 (hw od)) fun v s1 ⟨x, H1, I2, r, e2, q⟩ => ?_
  exact ⟨x, _, I2.unlock e2 (I.nofrz hd mu), r, q⟩

/-! ### one iterator just laid -/
theorem pi_one {tg : Expr} {pins : List (Addr × Obj)} {σ : St} {H : Hp} {s : Shared} {R : It → Hp → Prop} {J : It} {tn : Nat → Heap → Prop} {tk : Nat} (I : Inv X pins σ H s) (o : Obj)
    (T : Turn X.prog X.w X.K tg J [s.heap.objs.size] s.heap.objs.size tn) (st : tn 0 (s.heap.push o)) (q : R J H) : PIE X pins σ tg R (.ref s.heap.objs.size) { s with heap := s.heap.push o, toks := tk } := by
  refine ⟨s.heap.objs.size, [s.heap.objs.size], tn, J, H, rfl, I.kept fun b ob e => Heap.get?_push_of_some _ e, T, st, fun b hb => ?_, q⟩
  have e : b = s.heap.objs.size := by simpa using hb
  subst e
  exact I.fpOk (Nat.le_refl _) (I.hok.fresh (Nat.le_refl _))
end

/-! ### range with a step -/
section
variable {X : Cx} {tg : Expr}
end
/-! ### reversed(list) -/
section
variable {X : Cx} {tg : Expr}
end

/-! ### a str -/
/-! ### a dict's keys: any dict's entries -/
section
variable {prog : Program} {w : World} {A : Around} {E : Value → Shared → Prop} {s : Shared}
theorem iter_keys {d : Addr} {o : Obj} {es : Array DictEntry} {ep : Nat} {Q : Value → Shared → Prop} (hd : (d == sysModules) = false) (ho : s.heap.get? d = some o) (hc : o.ExactDict) (hdat : o.data = .dict es ep)
    (hQ : Q (.ref s.heap.objs.size) { s with heap := s.heap.push { cls := .type "dict_keyiterator", data := .fields #[.ref d, .int 0 0, .int es.size 0, .int ep 0] } }) :
    wpAny (model prog w) A (pyIter (.ref d)) Q E s := by
  have hT : s.TypeIs (.ref d) "dict" := ⟨o, ho, hc.1⟩
  refine wpAny_pyIter_slot hT F.slot_dict_iter (wpAny_call_entry F.slot_dict_iter hT F.entry_dict_iter ?_ (F.args_dict_iter_1 _))
  unfold Builtin.«dict.__iter__»
  refine wpAny_bind ?_
  unfold Builtin.Dict.dictSlotNone
  refine wpAny_bind (wpAny_notOrdered_dict hT ?_)
  show wpAny _ _ (pure (Value.ref d)) _ _ s
  refine wpAny_pure ?_
  show wpAny _ _ (Builtin.Dict.showsAll d >>= _) _ _ s
  unfold Builtin.Dict.showsAll
  rw [if_neg (by rw [hd]; exact Bool.false_ne_true)]
  refine wpAny_bind (wpAny_pure ?_)
  refine wpAny_bind (wpAny_dictEntries ho hdat ?_)
  refine wpAny_bind (wpAny_dictEpoch ho hdat ?_)
  refine wpAny_bind (wpAny_newObj_type (wpAny_pure ⟨_, rfl, "dict_keyiterator", _, ⟨_, Heap.get?_push_size _ rfl, rfl⟩, F.slot_dict_keyiterator_next.lookup, ?_⟩))
  simpa [rawInt] using hQ
theorem next_key_item {it d : Addr} {i n ep : Nat} {od : Obj} {es : Array DictEntry} {en : DictEntry} {Q : Option Value → Shared → Prop} (hit : s.heap.IsKeyIter it d i n ep) (hod : s.heap.get? d = some od) (hdd : od.data = .dict es ep)
    (hsz : es.size = n) (hx : es[i]? = some en) (hQ : ∀ h', h'.IsKeyIter it d (i + 1) n ep → Heap.SameBut it s.heap h' → Q (some en.key) { s with heap := h' }) : wpAny (model prog w) A (pyNext (.ref it)) Q E s := by
  obtain ⟨o, ho, hc, hd⟩ := id hit
  unfold pyNext
  refine wpAny_bind (wpAny_attempt (wpAny_callSpecial?_slot (name := Str.ofString "__next__") hit.typeIs F.slot_dict_keyiterator_next
    (wpAny_call_entry F.slot_dict_keyiterator_next hit.typeIs F.entry_dict_keyiterator_next ?_ (F.args_dict_keyiterator_next_1 _))))
  refine wpAny_bind (wpAny_pure ?_)
  refine wpAny_bind ?_
  refine wpAny_bind ?_
  first | refine wpAny_bind (wpAny_typeNameOfWhole_keyiter hit.typeIs (wpAny_pure ?_)) | refine wpAny_bind (wpAny_typeNameOf_keyiter hit.typeIs (wpAny_pure ?_))
  refine wpAny_bind (wpAny_fieldsOf ho hd ?_)
  have hown : Builtin.Dict_items.ownsTuple "dict_keyiterator" = false := by decide
  simp only [hown, Bool.false_eq_true, if_false]
  show wpAny _ _ (if (Value.ref d == Value.none) = true then _ else _) _ _ s
  rw [if_neg (show ¬ ((Value.ref d == Value.none) = true) from Bool.false_ne_true)]
  refine wpAny_bind (wpAny_pure ?_)
  refine wpAny_bind (wpAny_dictEntries hod hdd ?_)
  rw [if_neg (by rw [hsz]; simp)]
  refine wpAny_bind (wpAny_pure ?_)
  refine wpAny_bind (wpAny_dictEpoch hod hdd ?_)
  rw [if_neg (by simp)]
  refine wpAny_pure ?_
  obtain ⟨hlt', hen⟩ := Array.getElem?_eq_some_iff.mp hx
  simp only [show ¬ ((i : Int) < 0) from by omega, if_false, Int.toNat_natCast, Array.getElem?_eq_getElem hlt']
  refine wpAny_bind ?_
  first | refine wpAny_bind (wpAny_typeNameOfWhole_keyiter hit.typeIs (wpAny_pure ?_)) | refine wpAny_bind (wpAny_typeNameOf_keyiter hit.typeIs (wpAny_pure ?_))
  refine wpAny_bind (wpAny_isOneOf_keyiter hit.typeIs ?_)
  show wpAny _ _ (setField (.ref it) 1 (rawInt ((i : Int) + 1)) >>= _) _ _ s
  refine wpAny_bind (wpAny_setField ho hd (by simp) ?_)
  have hit' : (s.heap.update it (Obj.mapFields (·.setIfInBounds 1 (rawInt ((i : Int) + 1))))).IsKeyIter it d (i + 1) n ep :=
    ⟨_, Heap.get?_update_self _ ho (Obj.isFreed_of_fields (Obj.data_mapFields hd _)), (Obj.cls_mapFields ..).trans hc, by rw [Obj.data_mapFields hd]; simp [rawInt]⟩
  refine wpAny_bind (wpAny_holding ?_)
  refine wpAny_bind (wpAny_isOneOf_keyiter (s := { s with heap := s.heap.update it (Obj.mapFields (·.setIfInBounds 1 (rawInt ((i : Int) + 1)))) }) hit'.typeIs ?_)
  show wpAny _ _ (pure es[i].key) _ _ _
  rw [hen]
  exact wpAny_pure (wpAny_pure ⟨_, rfl, wpAny_pure (hQ _ hit' (Heap.SameBut.update ..))⟩)
theorem next_key_end {it d : Addr} {i n ep : Nat} {od : Obj} {es : Array DictEntry} {Q : Option Value → Shared → Prop} (hh : A.handled = none) (hit : s.heap.IsKeyIter it d i n ep) (hod : s.heap.get? d = some od) (hdd : od.data = .dict es ep)
    (hsz : es.size = n) (hge : n ≤ i) (hQ : ∀ h', Heap.ExtBut it s.heap h' → Q none { s with heap := h' }) : wpAny (model prog w) A (pyNext (.ref it)) Q E s := by
  obtain ⟨o, ho, hc, hd⟩ := id hit
  unfold pyNext
  refine wpAny_bind (wpAny_attempt (wpAny_callSpecial?_slot (name := Str.ofString "__next__") hit.typeIs F.slot_dict_keyiterator_next
    (wpAny_call_entry F.slot_dict_keyiterator_next hit.typeIs F.entry_dict_keyiterator_next ?_ (F.args_dict_keyiterator_next_1 _))))
  refine wpAny_bind (wpAny_pure ?_)
  refine wpAny_bind ?_
  refine wpAny_bind ?_
  first | refine wpAny_bind (wpAny_typeNameOfWhole_keyiter hit.typeIs (wpAny_pure ?_)) | refine wpAny_bind (wpAny_typeNameOf_keyiter hit.typeIs (wpAny_pure ?_))
  refine wpAny_bind (wpAny_fieldsOf ho hd ?_)
  have hown : Builtin.Dict_items.ownsTuple "dict_keyiterator" = false := by decide
  simp only [hown, Bool.false_eq_true, if_false]
  show wpAny _ _ (if (Value.ref d == Value.none) = true then _ else _) _ _ s
  rw [if_neg (show ¬ ((Value.ref d == Value.none) = true) from Bool.false_ne_true)]
  refine wpAny_bind (wpAny_pure ?_)
  refine wpAny_bind (wpAny_dictEntries hod hdd ?_)
  rw [if_neg (by rw [hsz]; simp)]
  refine wpAny_bind (wpAny_pure ?_)
  refine wpAny_bind (wpAny_dictEpoch hod hdd ?_)
  rw [if_neg (by simp)]
  refine wpAny_pure ?_
  have hge' : es.size ≤ i := by rw [hsz]; exact hge
  simp only [show ¬ ((i : Int) < 0) from by omega, if_false, Int.toNat_natCast, Array.getElem?_eq_none hge']
  refine wpAny_bind ?_
  first | refine wpAny_bind (wpAny_typeNameOfWhole_keyiter hit.typeIs (wpAny_pure ?_)) | refine wpAny_bind (wpAny_typeNameOf_keyiter hit.typeIs (wpAny_pure ?_))
  show wpAny _ _ (setField (.ref it) 0 .none >>= _) _ _ s
  refine wpAny_bind (wpAny_setField ho hd (by simp) ?_)
  show wpAny _ _ (newExc (.type "StopIteration") [] >>= _) _ _ _
  refine wpAny_bind ?_
  simp only [newExc, newTuple]
  refine wpAny_bind (wpAny_newObj_type ?_ (by size_fits))
  refine wpAny_bind (m := firstArgMember _ _) (wpAny_of_eq (a := Value.none) (by first | rfl | (simp only [firstArgMember]; rfl)) ?_)
  refine wpAny_newObj_type ?_ (by size_fits)
  simp only [raiseNew]
  refine wpAny_bind (wpAny_handled ?_)
  rw [show A.in1.handled = none from hh]
  refine wpAny_bind (wpAny_pure (wpAny_throw ?_))
  refine wpAny_bind (wpAny_isInstance (T := "StopIteration") (b := true) ⟨_, Heap.get?_push_size _ rfl, rfl⟩ isSubtype_stop ?_)
  exact wpAny_pure (hQ _ (((Heap.SameBut.update ..).extBut.push _).push _))
end

/-! ### a locked dict -/
theorem kv_get {κ : Type} {kvs : List (κ × V)} {vs : List (κ × Value)} (h : KV kvs vs) : ∀ {i : Nat} {k : κ} {v : V}, kvs[i]? = some (k, v) → ∃ u, vs[i]? = some (k, u) ∧ RelV v u := by
  unfold KV at h
  induction h with
  | nil => intro i k v e; simp at e
  | @cons a b l₁ l₂ r t ih =>
    intro i k v e
    cases i with
    | zero =>
      simp only [List.getElem?_cons_zero, Option.some.injEq] at e
      subst e
      refine ⟨b.2, ?_, r.2⟩
      simp only [List.getElem?_cons_zero]
      exact congrArg some (Prod.ext r.1.symm rfl)
    | succ j =>
      simp only [List.getElem?_cons_succ] at e ⊢
      exact ih e
theorem paired_get {α β : Type} {G : α → β → Prop} {l₁ : List α} {l₂ : List β} (h : Paired G l₁ l₂) : ∀ {i : Nat} {a : α}, l₁[i]? = some a → ∃ b, l₂[i]? = some b ∧ G a b := by
  induction h with
  | nil => intro i a e; simp at e
  | @cons a b l₁ l₂ r t ih =>
    intro i a' e
    cases i with
    | zero =>
      simp only [List.getElem?_cons_zero, Option.some.injEq] at e
      subst e
      exact ⟨b, rfl, r⟩
    | succ j =>
      simp only [List.getElem?_cons_succ] at e ⊢
      exact ih e
theorem relV_key {k : Key} {u : Value} (h : keyIs k u = true) : RelV (kV k) u := by
  rcases keyIs_shape h with ⟨i, t, rfl, rfl⟩ | ⟨x, t, rfl, rfl⟩
  · exact ⟨t, rfl⟩
  · exact ⟨t, rfl⟩
section
variable {X : Cx} {pins : List (Addr × Obj)} {σ : St} {H : Hp} {s : Shared} {d : Addr} {o : Obj}
theorem Inv.frzK {kvs : List (Key × V)} (I : Inv X pins σ H s) (h : H d = some (.frz o (.dK kvs))) :
    (d == sysModules) = false ∧ s.heap.get? d = some o ∧ o.ExactDict ∧ ∃ (es : Array DictEntry) (ep : Nat) (vs : List (Key × Value)), o.data = .dict es ep ∧ es.size = kvs.length ∧ KV kvs vs ∧ s.heap.DictAt (mixKind X.prog X.w) d vs ep := by
  obtain ⟨hd, z, hs, vs, kv, o', es, ep, ho, hx, hdt, r⟩ := I.hok d _ h
  rw [hd] at ho
  cases ho
  refine ⟨hs, hd, hx, es, ep, vs, hdt, ?_, kv, o, es, hd, hx, hdt, r⟩
  have l1 := r.2.1.length
  have l2 : kvs.length = vs.length := Paired.length kv
  rw [Array.length_toList] at l1
  omega
/-- the same for tuple keys -/
theorem Inv.frzT {kvs : List (List Key × V)} (I : Inv X pins σ H s) (h : H d = some (.frz o (.dT kvs))) :
    (d == sysModules) = false ∧ s.heap.get? d = some o ∧ o.ExactDict ∧ ∃ (es : Array DictEntry) (ep : Nat), o.data = .dict es ep ∧ es.size = kvs.length ∧
      ∀ (i : Nat) (k : List Key) (v : V), kvs[i]? = some (k, v) → ∃ (en : DictEntry) (q : Addr), es[i]? = some en ∧ en.key = .ref q ∧ H q = some (.tup (k.map kV)) := by
  obtain ⟨hd, z, hs, xs, pr, o', es, ep, ho, hx, hdt, he, _⟩ := I.hok d _ h
  rw [hd] at ho
  cases ho
  refine ⟨hs, hd, hx, es, ep, hdt, ?_, fun i k v e => ?_⟩
  · have l1 : es.size = xs.length := size_of_entries he
    have l2 : kvs.length = xs.length := Paired.length pr
    omega
  · obtain ⟨b, hb, e1, e2, _⟩ := paired_get pr e
    have q := entry_at he i
    rw [hb] at q
    exact ⟨_, b.2.1, q, rfl, e2⟩
end

/-- the keys of the locked dict at d, in their order -/
def Itk (d : Addr) (o : Obj) (kvs : List (Key × V)) : It :=
  ⟨fun i H => H d = some (.frz o (.dK kvs)) ∧ i < kvs.length, fun i H x H' => H' = H ∧ ∃ k v, kvs[i]? = some (k, v) ∧ x = kV k, fun i H => H d = some (.frz o (.dK kvs)) ∧ kvs.length ≤ i⟩
/-- .. of tuple keys: the key's own tuple -/
def Itkt (d : Addr) (o : Obj) (kvs : List (List Key × V)) : It :=
  ⟨fun i H => H d = some (.frz o (.dT kvs)) ∧ i < kvs.length, fun i H x H' => H' = H ∧ ∃ (k : List Key) (v : V) (q : Addr), kvs[i]? = some (k, v) ∧ x = .ref q ∧ H q = some (.tup (k.map kV)), fun i H => H d = some (.frz o (.dT kvs)) ∧ kvs.length ≤ i⟩
theorem dict_ep {o : Obj} {es es' : Array DictEntry} {ep ep' : Nat} (h : o.data = .dict es ep) (h' : o.data = .dict es' ep') : es' = es ∧ ep' = ep := by
  rw [h] at h'
  cases h'
  exact ⟨rfl, rfl⟩
section
variable {P : Program} {w : World} {K : PySem.W.Frag} {tg : Expr} {d : Addr} {o : Obj} {es : Array DictEntry} {ep : Nat}
theorem turn_keys {kvs : List (Key × V)} (it : Addr) (hod : o.data = .dict es ep) : Turn P w K tg (Itk d o kvs) [it] it (fun i h => h.IsKeyIter it d i kvs.length ep) where
  mem := by simp
  obj := fun i h st b hb => by
    have e : b = it := by simpa using hb
    subst e
    obtain ⟨oi, e, c, dd⟩ := st
    exact ⟨oi, e, fun v z => by rw [dd] at z; cases z⟩
  keep := fun i h h' st k => st.at fun oi e => k it (by simp) oi e
  item := by
    intro X hP hw hK hc i pins s σ H E I hf st hg
    subst hP hw hK
    obtain ⟨hd, hi⟩ := hg
    obtain ⟨f0, f1, f2, f3, f4, f5⟩ := hf it (by simp)
    obtain ⟨hs, hgd, hx, es', ep', vs, hdt, hsz, kv, hm⟩ := I.frzK hd
    obtain ⟨rfl, rfl⟩ := dict_ep hod hdt
    obtain ⟨⟨k, v⟩, hkv⟩ : ∃ p, kvs[i]? = some p := ⟨kvs[i], List.getElem?_eq_getElem hi⟩
    obtain ⟨u, hu, ru⟩ := kv_get kv hkv
    have hl : kvs.length = vs.length := Paired.length kv
    rw [hl] at st
    refine wpAny_pyNext_dict_item st hm hu fun key h' hkey st' sb => ?_
    have I1 : Inv X pins σ H { s with heap := h' } := I.turned (t' := s.toks) (fun b ob hb e => (sb.2 b hb).trans e) f0 f1 f3 f4 f5
    obtain ⟨oi, e, c, dd⟩ := id st'
    refine ⟨key, rfl, go_of (s := { s with heap := h' }) e c dd (by decide) ⟨kV k, H, I1, relV_key (show keyIs k key = true from hkey), ⟨rfl, k, v, hkv, rfl⟩, ?_, fun b hb => (hf b hb).1⟩⟩
    show h'.IsKeyIter it d (i + 1) kvs.length _
    rw [hl]
    exact st'
  done := by
    intro X hP hw hK hc i pins s σ H E I hf st hg
    subst hP hw hK
    obtain ⟨hd, hi⟩ := hg
    obtain ⟨f0, f1, f2, f3, f4, f5⟩ := hf it (by simp)
    obtain ⟨hs, hgd, hx, es', ep', vs, hdt, hsz, kv, hm⟩ := I.frzK hd
    obtain ⟨rfl, rfl⟩ := dict_ep hod hdt
    exact next_key_end (I.ok.hd hc) st hgd hdt hsz hi fun h' eb => ⟨rfl, I.turned (t' := s.toks) (fun b ob hb e => eb b ob hb e) f0 f1 f3 f4 f5⟩
  self := fun A i s Q E st h => wpAny_pyIter_keyiter st h
theorem turn_keysT {kvs : List (List Key × V)} (it : Addr) (hod : o.data = .dict es ep) : Turn P w K tg (Itkt d o kvs) [it] it (fun i h => h.IsKeyIter it d i kvs.length ep) where
  mem := by simp
  obj := fun i h st b hb => by
    have e : b = it := by simpa using hb
    subst e
    obtain ⟨oi, e, c, dd⟩ := st
    exact ⟨oi, e, fun v z => by rw [dd] at z; cases z⟩
  keep := fun i h h' st k => st.at fun oi e => k it (by simp) oi e
  item := by
    intro X hP hw hK hc i pins s σ H E I hf st hg
    subst hP hw hK
    obtain ⟨hd, hi⟩ := hg
    obtain ⟨f0, f1, f2, f3, f4, f5⟩ := hf it (by simp)
    obtain ⟨hs, hgd, hx, es', ep', hdt, hsz, ent⟩ := I.frzT hd
    obtain ⟨rfl, rfl⟩ := dict_ep hod hdt
    obtain ⟨⟨k, v⟩, hkv⟩ : ∃ p, kvs[i]? = some p := ⟨kvs[i], List.getElem?_eq_getElem hi⟩
    obtain ⟨en, q, hen, hkey, hq⟩ := ent i k v hkv
    refine next_key_item st hgd hdt hsz hen fun h' st' sb => ?_
    have I1 : Inv X pins σ H { s with heap := h' } := I.turned (t' := s.toks) (fun b ob hb e => (sb.2 b hb).trans e) f0 f1 f3 f4 f5
    obtain ⟨oi, e, c, dd⟩ := id st'
    exact ⟨en.key, rfl, go_of (s := { s with heap := h' }) e c dd (by decide) ⟨.ref q, H, I1, hkey, ⟨rfl, k, v, q, hkv, rfl, hq⟩, st', fun b hb => (hf b hb).1⟩⟩
  done := by
    intro X hP hw hK hc i pins s σ H E I hf st hg
    subst hP hw hK
    obtain ⟨hd, hi⟩ := hg
    obtain ⟨f0, f1, f2, f3, f4, f5⟩ := hf it (by simp)
    obtain ⟨hs, hgd, hx, es', ep', hdt, hsz, ent⟩ := I.frzT hd
    obtain ⟨rfl, rfl⟩ := dict_ep hod hdt
    exact next_key_end (I.ok.hd hc) st hgd hdt hsz hi fun h' eb => ⟨rfl, I.turned (t' := s.toks) (fun b ob hb e => eb b ob hb e) f0 f1 f3 f4 f5⟩
  self := fun A i s Q E st h => by
    refine wpAny_pyIter_slot st.typeIs F.slot_dict_keyiterator_iter (wpAny_call_entry F.slot_dict_keyiterator_iter st.typeIs F.entry_dict_keyiterator_iter ?_ (F.args_dict_keyiterator_iter_1 _))
    show wpAny _ _ (ret (.ref it)) _ _ s
    exact wpAny_pure ⟨_, rfl, "dict_keyiterator", _, st.typeIs, F.slot_dict_keyiterator_next.lookup, h⟩
end

/-! ### for k in d, d.keys(), d.values(), d.items() -/
/-- the dict is locked (tLock, or by the caller) -/
def iKeys (td : TE) : TI := fun σ H R => td σ H fun x H1 => ∃ d o, x = .ref d ∧ ((∃ kvs, H1 d = some (.frz o (.dK kvs)) ∧ R (Itk d o kvs) H1) ∨ ∃ kvs, H1 d = some (.frz o (.dT kvs)) ∧ R (Itkt d o kvs) H1)
section
variable {X : Cx} {tg e : Expr} {td : TE} {apos cpos : Pos}
theorem pi_keys (he : PE X e td) : PI X tg e (iKeys td) := by
  intro pins s σ H R I h
  refine thn (he pins s σ H _ I h) fun u s1 ⟨x, H1, I1, rx, d, o, ex, q⟩ => ?_
  subst ex
  obtain rfl : u = Value.ref d := rx
  rcases q with ⟨kvs, hd, q⟩ | ⟨kvs, hd, q⟩
  · obtain ⟨hs, hgd, hx, es, ep, vs, hdt, hsz, kv, hm⟩ := I1.frzK hd
    refine iter_keys hs hgd hx hdt (pi_one (tk := s1.toks) I1 _ (turn_keys _ hdt) ⟨_, Heap.get?_push_size _ rfl, rfl, ?_⟩ q)
    rw [hsz] <;> rfl
  · obtain ⟨hs, hgd, hx, es, ep, hdt, hsz, ent⟩ := I1.frzT hd
    refine iter_keys hs hgd hx hdt (pi_one (tk := s1.toks) I1 _ (turn_keysT _ hdt) ⟨_, Heap.get?_push_size _ rfl, rfl, ?_⟩ q)
    rw [hsz] <;> rfl
end

/-! ### enumerate(list) -/
/-! ### zip(list, list) -/
end L2

section 
namespace Bits
open PySem PyProof.Rows

end Bits
end 

section 
namespace TL
open PySem PySem.Builtin PySem.Builtin.Str PySem.StrLaws

/-! ### the list functions -/
/-! ### the model's split and partition are these -/
/-! ### computing spl and par -/
/-! ### digits -/
/-! ### words: x.split() -/
end TL
end 

namespace L2
open PySem PySem.Spec PyProof.Rows

section
variable {X : Cx} {pins : List (Addr × Obj)} {σ : St} {H : Hp} {s : Shared} {Q : VK}
end

section
variable {X : Cx}

/-! ### of a text alone -/
/-! ### of a text and a text -/
end

section
variable {X : Cx} {o e : Expr} {to te : TE}
end
end L2

namespace L2
open PySem PySem.Spec PyProof.Rows

section
variable {X : Cx}
end

/-! ### slices of a text -/
end L2

end
section
set_option Elab.async false
set_option linter.all false
set_option maxRecDepth 100000
set_option maxHeartbeats 2000000
namespace L2
open PySem PySem.Spec PyProof.Rows
open PySem.W (WData Codec OpenSpec Well WellAll ReadsW ReadsAllW)
/-! ### an answer as data -/
mutual
/-- x stands for the datum d, lists and tuples all the way -/
inductive Dw (K : PySem.W.Frag) (H : Hp) : V → WData → Prop
  | non : Dw K H .non .none
  | bl (b : Bool) : Dw K H (.bl b) (.bool b)
  | int (i : Int) : Dw K H (.int i) (.int i)
  | str (x : Str) : Dw K H (.str x) (.str x)
  | byt (b : Array UInt8) : Dw K H (.byt b) (.bytes b.toList)
  | lst {a : Addr} {xs : List V} {ds : List WData} : SqL K H a xs → DwAll K H xs ds → Dw K H (.ref a) (.list ds)
  | tup {a : Addr} {xs : List V} {ds : List WData} : SqT K H a xs → DwAll K H xs ds → Dw K H (.ref a) (.tuple ds)
inductive DwAll (K : PySem.W.Frag) (H : Hp) : List V → List WData → Prop
  | nil : DwAll K H [] []
  | cons {v : V} {vs : List V} {d : WData} {ds : List WData} : Dw K H v d → DwAll K H vs ds → DwAll K H (v :: vs) (d :: ds)
end
theorem dw_ints {K : PySem.W.Frag} {H : Hp} : ∀ ns : List Int, DwAll K H (ns.map V.int) (ns.map WData.int)
  | [] => .nil
  | n :: r => .cons (.int n) (dw_ints r)
theorem ints_dw {K : PySem.W.Frag} {H : Hp} : ∀ (ns : List Int) (xs : List V), DwAll K H xs (ns.map WData.int) → xs = ns.map V.int
  | [], xs, h => by
    cases h
    rfl
  | n :: r, xs, h => by
    cases h with
    | cons h1 h2 =>
      cases h1
      rw [ints_dw r _ h2] <;> rfl
section
variable {P : Program} {w : World} {K : PySem.W.Frag} {H : Hp} {h : Heap} {R : PySem.W.WRecords} {cl : Str → Option Addr}
theorem sqL_at {a : Addr} {xs : List V} (hok : HOk P w H h) (KX : K.In h) (q : SqL K H a xs) : ∃ (its : List Value) (o : Obj) (n : Nat), Vals xs its ∧ h.get? a = some o ∧ o.cls = .type "list" ∧ o.data = .seq its.toArray n := by
  rcases q with q | ⟨o, its, n, e, hc, _, hd, _, hv⟩
  · obtain ⟨_, its, n, hv, e⟩ := (show ObjOk P w H h a (.lst xs) from q.ok hok)
    exact ⟨its, _, n, hv, e, rfl, rfl⟩
  · exact ⟨its.toList, o, n, hv, KX _ _ e, hc, by simp [hd]⟩
theorem sqT_at {a : Addr} {xs : List V} (hok : HOk P w H h) (KX : K.In h) (q : SqT K H a xs) : ∃ (its : List Value) (o : Obj) (n : Nat), Vals xs its ∧ h.get? a = some o ∧ o.cls = .type "tuple" ∧ o.data = .seq its.toArray n := by
  rcases q with q | ⟨o, its, n, e, hc, hd, _, hv⟩
  · obtain ⟨_, its, hv, o, e, hc, n, hd⟩ := (show ObjOk P w H h a (.tup xs) from q.ok hok)
    exact ⟨its, o, n, hv, e, hc, hd⟩
  · exact ⟨its.toList, o, n, hv, KX _ _ e, hc, by simp [hd]⟩
mutual
theorem Dw.reads (hok : HOk P w H h) (KX : K.In h) : ∀ (d : WData) (v : V) (u : Value), Dw K H v d → RelV v u → ∃ as, ReadsW R cl h u d as
  | .none, _, _, x, r => by
    cases x
    cases r
    exact ⟨_, ReadsW.none⟩
  | .bool b, _, _, x, r => by
    cases x
    cases r
    exact ⟨_, ReadsW.bool b⟩
  | .int i, _, _, x, r => by
    cases x
    obtain ⟨t, rfl⟩ := r
    exact ⟨_, ReadsW.int i t⟩
  | .str s, _, _, x, r => by
    cases x
    obtain ⟨t, rfl⟩ := r
    exact ⟨_, ReadsW.str s t⟩
  | .bytes b, _, _, x, r => by
    cases x
    obtain ⟨t, rfl⟩ := r
    exact ⟨_, ReadsW.bytes _ t⟩
  | .list ds, _, _, x, r => by
    cases x with
    | lst hs ha =>
      cases r
      obtain ⟨its, o, n, rv, ho, hc, hd⟩ := sqL_at hok KX hs
      obtain ⟨as, hr⟩ := Dw.readsAll hok KX ds _ its ha rv
      exact ⟨_, ReadsW.list ho hc hd hr⟩
  | .tuple ds, _, _, x, r => by
    cases x with
    | tup hs ha =>
      cases r
      obtain ⟨its, o, n, rv, ho, hc, hd⟩ := sqT_at hok KX hs
      obtain ⟨as, hr⟩ := Dw.readsAll hok KX ds _ its ha rv
      exact ⟨_, ReadsW.tuple ho hc hd hr⟩
  | .float _, _, _, x, _ => by cases x
  | .dict _, _, _, x, _ => by cases x
  | .bytearray _, _, _, x, _ => by cases x
  | .set _, _, _, x, _ => by cases x
  | .frozenset _, _, _, x, _ => by cases x
  | .obj _ _, _, _, x, _ => by cases x
theorem Dw.readsAll (hok : HOk P w H h) (KX : K.In h) : ∀ (ds : List WData) (vs : List V) (us : List Value), DwAll K H vs ds → Vals vs us → ∃ as, ReadsAllW R cl h us ds as
  | [], _, _, x, r => by
    cases x
    cases r
    exact ⟨_, ReadsAllW.nil⟩
  | d :: ds, _, _, x, r => by
    cases x with
    | cons h1 h2 =>
      cases r with
      | cons r1 r2 =>
        obtain ⟨as, q1⟩ := Dw.reads hok KX d _ _ h1 r1
        obtain ⟨bs, q2⟩ := Dw.readsAll hok KX ds _ _ h2 r2
        exact ⟨_, ReadsAllW.cons q1 q2⟩
end
end
/-! ### the arguments -/
mutual
/-- data that a codec tells -/
def plW : WData → Bool
  | .none => true
  | .bool _ => true
  | .int _ => true
  | .str _ => true
  | .bytes _ => true
  | .list xs => plWs xs
  | .tuple xs => plWs xs
  | _ => false
def plWs : List WData → Bool
  | [] => true
  | x :: r => plW x && plWs r
end
theorem plWs_map {α : Type} {f : α → WData} (h : ∀ a, plW (f a) = true) : ∀ l : List α, plWs (l.map f) = true
  | [] => rfl
  | x :: r => by
    show (plW (f x) && plWs (r.map f)) = true
    rw [h x, plWs_map h r] <;> rfl
theorem pl_enc : ∀ (c : Codec) (a : c.denote), plW (c.enc a) = true
  | .unit, _ => rfl
  | .bool, _ => rfl
  | .int _ _, _ => rfl
  | .nat _ _, _ => rfl
  | .u8, _ => rfl
  | .bytes _ _, _ => rfl
  | .text _ _ _ _, _ => rfl
  | .list _ _ c, a => plWs_map (fun x => pl_enc c x) a
  | .pair c d, a => by
    show (plW (c.enc a.1) && (plW (d.enc a.2) && true)) = true
    rw [pl_enc c a.1, pl_enc d a.2] <;> rfl
  | .triple c d e, a => by
    show (plW (c.enc a.1) && (plW (d.enc a.2.1) && (plW (e.enc a.2.2) && true))) = true
    rw [pl_enc c a.1, pl_enc d a.2.1, pl_enc e a.2.2] <;> rfl
  | .option c, none => rfl
  | .option c, some x => pl_enc c x
theorem pl_encAll : ∀ (cs : List Codec) (a : Codec.denoteAll cs), plWs (Codec.encAll cs a) = true
  | [], _ => rfl
  | c :: cs, a => by
    show (plW (c.enc a.1) && plWs (Codec.encAll cs a.2)) = true
    rw [pl_enc c a.1, pl_encAll cs a.2] <;> rfl
theorem weight_mem : ∀ {xs : List WData} {d : WData}, d ∈ xs → d.weight ≤ WData.weightAll xs
  | [], d, h => absurd h (by simp)
  | x :: r, d, h => by
    show d.weight ≤ x.weight + 1 + WData.weightAll r
    rcases List.mem_cons.mp h with e | m
    · rw [e]
      omega
    · have z := weight_mem m
      omega
def toV : Value → V
  | .none => .non
  | .bool b => .bl b
  | .int i _ => .int i
  | .str x _ => .str x
  | .bytes b _ => .byt b
  | .ref a => .ref a
  | _ => .non
/-- a value of the arguments, its objects among A -/
def OkU (A : List Addr) : Value → Prop
  | .none => True
  | .bool _ => True
  | .int _ _ => True
  | .str _ _ => True
  | .bytes _ _ => True
  | .ref a => a ∈ A
  | _ => False
theorem OkU.mono {A B : List Addr} (h : ∀ a ∈ A, a ∈ B) : ∀ {u : Value}, OkU A u → OkU B u := fun {u} x => by
  cases u with
  | ref a => exact h a x
  | none => trivial
  | bool b => trivial
  | int i t => trivial
  | str s t => trivial
  | bytes b t => trivial
  | _ => exact False.elim x
theorem relV_toV {A : List Addr} {u : Value} (x : OkU A u) : RelV (toV u) u := by
  cases u with
  | ref a => rfl
  | none => rfl
  | bool b => rfl
  | int i t => exact ⟨t, rfl⟩
  | str s t => exact ⟨t, rfl⟩
  | bytes b t => exact ⟨t, rfl⟩
  | _ => exact False.elim x
theorem vals_toV {A : List Addr} : ∀ {vs : List Value}, (∀ u ∈ vs, OkU A u) → Vals (vs.map toV) vs
  | [], _ => .nil
  | u :: r, h => .cons (relV_toV (h u (List.mem_cons_self ..))) (vals_toV fun x hx => h x (List.mem_cons_of_mem _ hx))
/-- an object of the arguments -/
def ArgOb (h : Heap) (A : List Addr) (a : Addr) : Prop := ∃ vs : List Value, vs.length ≤ sizeLine ∧ (∀ u ∈ vs, OkU A u) ∧
  (h.get? a = some { cls := .type "list", data := .seq vs.toArray } ∨ h.get? a = some { cls := .type "tuple", data := .seq vs.toArray })
theorem ArgOb.mono {h : Heap} {A B : List Addr} {a : Addr} (k : ∀ a ∈ A, a ∈ B) (x : ArgOb h A a) : ArgOb h B a := by
  obtain ⟨vs, h1, h2, h3⟩ := x
  exact ⟨vs, h1, fun u hu => (h2 u hu).mono k, h3⟩
theorem wellAll_len {P : Params} {h : Heap} : ∀ {vs : List Value} {ds : List WData}, WellAll P h vs ds → vs.length = ds.length
  | _, _, .nil => rfl
  | _, _, .cons _ b => by
    show _ + 1 = _ + 1
    rw [wellAll_len b]
theorem well_list {P : Params} {h : Heap} {v : Value} {ds : List WData} (x : Well P h v (.list ds)) : ∃ (a : Addr) (vs : List Value), v = .ref a ∧ h.get? a = some { cls := .type "list", data := .seq vs.toArray } ∧ WellAll P h vs ds := by
  cases x with
  | list ho hall => exact ⟨_, _, rfl, ho, hall⟩
theorem well_tuple {P : Params} {h : Heap} {v : Value} {ds : List WData} (x : Well P h v (.tuple ds)) : ∃ (a : Addr) (vs : List Value), v = .ref a ∧ h.get? a = some { cls := .type "tuple", data := .seq vs.toArray } ∧ WellAll P h vs ds := by
  cases x with
  | tuple ho hall => exact ⟨_, _, rfl, ho, hall⟩
theorem well_cons {P : Params} {h : Heap} {us : List Value} {d : WData} {ds : List WData} (x : WellAll P h us (d :: ds)) : ∃ (v : Value) (vs : List Value), us = v :: vs ∧ Well P h v d ∧ WellAll P h vs ds := by
  cases x with
  | cons a b => exact ⟨_, _, rfl, a, b⟩
theorem line_of {n : Nat} (h : n ≤ 1048576) : n ≤ sizeLine := Nat.le_trans h (by decide)
section
variable {P : Params} {h : Heap}
mutual
theorem area_one : ∀ (d : WData) (v : Value), Well P h v d → plW d = true → d.weight ≤ 1048576 → ∃ A : List Addr, OkU A v ∧ ∀ a ∈ A, ArgOb h A a
  | .none, _, x, _, _ => by
    cases x
    exact ⟨[], trivial, fun a m => absurd m (by simp)⟩
  | .bool b, _, x, _, _ => by
    cases x
    exact ⟨[], trivial, fun a m => absurd m (by simp)⟩
  | .int i, _, x, _, _ => by
    cases x
    exact ⟨[], trivial, fun a m => absurd m (by simp)⟩
  | .str s, _, x, _, _ => by
    cases x
    exact ⟨[], trivial, fun a m => absurd m (by simp)⟩
  | .bytes b, _, x, _, _ => by
    cases x
    exact ⟨[], trivial, fun a m => absurd m (by simp)⟩
  | .list ds, _, x, p, z => by
    obtain ⟨a, vs, rfl, ho, hall⟩ := well_list x
    have z2 : WData.weightAll ds ≤ 1048576 := z
    obtain ⟨A, h1, h2⟩ := area_all ds _ hall p fun d hd => Nat.le_trans (weight_mem hd) z2
    have k : ∀ b ∈ A, b ∈ a :: A := fun b hb => List.mem_cons_of_mem _ hb
    refine ⟨a :: A, List.mem_cons_self .., fun b hb => ?_⟩
    rcases List.mem_cons.mp hb with e | m
    · rw [e]
      exact ⟨vs, line_of (by rw [wellAll_len hall]; exact Nat.le_trans (PySem.W.length_le_weightAllW ds) z2), fun u hu => (h1 u hu).mono k, .inl ho⟩
    · exact (h2 b m).mono k
  | .tuple ds, _, x, p, z => by
    obtain ⟨a, vs, rfl, ho, hall⟩ := well_tuple x
    have z2 : WData.weightAll ds ≤ 1048576 := z
    obtain ⟨A, h1, h2⟩ := area_all ds _ hall p fun d hd => Nat.le_trans (weight_mem hd) z2
    have k : ∀ b ∈ A, b ∈ a :: A := fun b hb => List.mem_cons_of_mem _ hb
    refine ⟨a :: A, List.mem_cons_self .., fun b hb => ?_⟩
    rcases List.mem_cons.mp hb with e | m
    · rw [e]
      exact ⟨vs, line_of (by rw [wellAll_len hall]; exact Nat.le_trans (PySem.W.length_le_weightAllW ds) z2), fun u hu => (h1 u hu).mono k, .inr ho⟩
    · exact (h2 b m).mono k
  | .float _, _, _, p, _ => Bool.noConfusion (show false = true from p)
  | .dict _, _, _, p, _ => Bool.noConfusion (show false = true from p)
  | .bytearray _, _, _, p, _ => Bool.noConfusion (show false = true from p)
  | .set _, _, _, p, _ => Bool.noConfusion (show false = true from p)
  | .frozenset _, _, _, p, _ => Bool.noConfusion (show false = true from p)
  | .obj _ _, _, _, p, _ => Bool.noConfusion (show false = true from p)
theorem area_all : ∀ (ds : List WData) (vs : List Value), WellAll P h vs ds → plWs ds = true → (∀ d ∈ ds, d.weight ≤ 1048576) → ∃ A : List Addr, (∀ u ∈ vs, OkU A u) ∧ ∀ a ∈ A, ArgOb h A a
  | [], _, x, _, _ => by
    cases x
    exact ⟨[], fun u m => absurd m (by simp), fun a m => absurd m (by simp)⟩
  | d :: ds, _, x, p, z => by
    obtain ⟨v, vs, rfl, x1, x2⟩ := well_cons x
    have q : plW d = true ∧ plWs ds = true := Bool.and_eq_true_iff.mp p
    obtain ⟨A, a1, a2⟩ := area_one d v x1 q.1 (z d (List.mem_cons_self ..))
    obtain ⟨B, b1, b2⟩ := area_all ds vs x2 q.2 fun e he => z e (List.mem_cons_of_mem _ he)
    have kA : ∀ b ∈ A, b ∈ A ++ B := fun b hb => List.mem_append.mpr (.inl hb)
    have kB : ∀ b ∈ B, b ∈ A ++ B := fun b hb => List.mem_append.mpr (.inr hb)
    refine ⟨A ++ B, fun u hu => ?_, fun b hb => ?_⟩
    · rcases List.mem_cons.mp hu with e | m
      · rw [e]
        exact a1.mono kA
      · exact (b1 u m).mono kB
    · rcases List.mem_append.mp hb with m | m
      · exact (a2 b m).mono kA
      · exact (b2 b m).mono kB
end
end
/-- what is tracked of an argument's object -/
def hoOf (o : Obj) : Option HO := match o.data with
  | .seq vs _ => if (o.cls == Value.type "list") = true then some (.frz o (.lst (vs.toList.map toV))) else some (.frz o (.tup (vs.toList.map toV)))
  | _ => none
def argH (K : PySem.W.Frag) (h : Heap) (A : List Addr) : Hp := fun b => if b ∈ A then (if (K.lookup b).isNone = true then (h.get? b).bind hoOf else none) else none
/-- nothing is tracked but what is known to the object -/
def OnlyF (H : Hp) : Prop := ∀ b, H b = none ∨ ∃ o u, H b = some (.frz o u)
theorem hoOf_lst (vs : List Value) : hoOf { cls := .type "list", data := .seq vs.toArray } = some (.frz { cls := .type "list", data := .seq vs.toArray } (.lst (vs.map toV))) := by
  show (if (Value.type "list" == Value.type "list") = true then some (HO.frz { cls := .type "list", data := .seq vs.toArray } (.lst (vs.toArray.toList.map toV))) else some (HO.frz { cls := .type "list", data := .seq vs.toArray } (.tup (vs.toArray.toList.map toV)))) = _
  rw [if_pos (beq_self_eq_true _)]
theorem hoOf_tup (vs : List Value) : hoOf { cls := .type "tuple", data := .seq vs.toArray } = some (.frz { cls := .type "tuple", data := .seq vs.toArray } (.tup (vs.map toV))) := by
  show (if (Value.type "tuple" == Value.type "list") = true then some (HO.frz { cls := .type "tuple", data := .seq vs.toArray } (.lst (vs.toArray.toList.map toV))) else some (HO.frz { cls := .type "tuple", data := .seq vs.toArray } (.tup (vs.toArray.toList.map toV)))) = _
  rw [if_neg (by decide)]
section
variable {P : Program} {w : World} {K : PySem.W.Frag} {h : Heap} {A : List Addr}
theorem argH_at {b : Addr} {o : Obj} (hb : b ∈ A) (hk : K.lookup b = none) (e : h.get? b = some o) : argH K h A b = hoOf o := by
  unfold argH
  rw [if_pos hb, hk, if_pos (show (none : Option Obj).isNone = true from rfl), e] <;> rfl
theorem of_argH {b : Addr} {u : HO} (q : argH K h A b = some u) : b ∈ A ∧ K.lookup b = none := by
  unfold argH at q
  by_cases hb : b ∈ A
  · rw [if_pos hb] at q
    cases hk : K.lookup b with
    | none => exact ⟨hb, rfl⟩
    | some o =>
      rw [hk, if_neg (by simp)] at q
      cases q
  · rw [if_neg hb] at q
    cases q
/-- what stands tracked -/
theorem argH_is (ar : ∀ a ∈ A, ArgOb h A a) {b : Addr} {u : HO} (q : argH K h A b = some u) : K.lookup b = none ∧ ∃ vs : List Value, vs.length ≤ sizeLine ∧ (∀ u ∈ vs, OkU A u) ∧
    ((h.get? b = some { cls := .type "list", data := .seq vs.toArray } ∧ u = .frz { cls := .type "list", data := .seq vs.toArray } (.lst (vs.map toV))) ∨
     (h.get? b = some { cls := .type "tuple", data := .seq vs.toArray } ∧ u = .frz { cls := .type "tuple", data := .seq vs.toArray } (.tup (vs.map toV)))) := by
  obtain ⟨hb, hk⟩ := of_argH q
  obtain ⟨vs, h1, h2, h3⟩ := ar b hb
  refine ⟨hk, vs, h1, h2, ?_⟩
  rcases h3 with e | e
  · rw [argH_at hb hk e, hoOf_lst] at q
    exact .inl ⟨e, (Option.some.inj q).symm⟩
  · rw [argH_at hb hk e, hoOf_tup] at q
    exact .inr ⟨e, (Option.some.inj q).symm⟩
theorem argH_only (ar : ∀ a ∈ A, ArgOb h A a) : OnlyF (argH K h A) := fun b => by
  cases q : argH K h A b with
  | none => exact .inl rfl
  | some u =>
    obtain ⟨_, vs, _, _, ⟨_, e⟩ | ⟨_, e⟩⟩ := argH_is ar q
    · exact .inr ⟨_, _, by rw [e]⟩
    · exact .inr ⟨_, _, by rw [e]⟩
theorem argH_ok (ar : ∀ a ∈ A, ArgOb h A a) : HOk P w (argH K h A) h := fun b u q => by
  obtain ⟨_, vs, h1, h2, ⟨e, rfl⟩ | ⟨e, rfl⟩⟩ := argH_is ar q
  · exact ⟨e, by rw [List.length_map]; exact h1, vs, _, vals_toV h2, e⟩
  · exact ⟨e, by rw [List.length_map]; exact h1, vs, vals_toV h2, _, e, rfl, _, rfl⟩
theorem seq_inj {c c' : Value} {vs us : List Value} (e : (some { cls := c, data := .seq vs.toArray } : Option Obj) = some { cls := c', data := .seq us.toArray }) : c = c' ∧ vs = us := by
  have e1 := Option.some.inj e
  have e2 : c = c' := congrArg Obj.cls e1
  have e3 : Data.seq vs.toArray = Data.seq us.toArray := congrArg Obj.data e1
  injection e3 with e4
  refine ⟨e2, ?_⟩
  have e5 := congrArg Array.toList e4
  simpa using e5
/-- a list argument -/
theorem argL (KX : K.In h) (ar : ∀ a ∈ A, ArgOb h A a) {a : Addr} {vs : List Value} (ha : a ∈ A) (e : h.get? a = some { cls := .type "list", data := .seq vs.toArray }) : (∀ u ∈ vs, OkU A u) ∧ SqL K (argH K h A) a (vs.map toV) := by
  obtain ⟨us, h1, h2, h3⟩ := ar a ha
  have hu : us = vs := by
    rcases h3 with q | q
    · rw [e] at q
      exact (seq_inj q).2.symm
    · rw [e] at q
      exact absurd (Value.type.inj (seq_inj q).1) (by decide)
  subst hu
  refine ⟨h2, ?_⟩
  cases hk : K.lookup a with
  | none => exact .inl (.inr ⟨_, by rw [argH_at ha hk e, hoOf_lst]⟩)
  | some o =>
    have e2 := KX a o hk
    rw [e] at e2
    obtain rfl := Option.some.inj e2
    exact .inr ⟨_, us.toArray, _, hk, rfl, rfl, rfl, by rw [List.size_toArray]; exact h1, by simpa using vals_toV h2⟩
theorem argT (KX : K.In h) (ar : ∀ a ∈ A, ArgOb h A a) {a : Addr} {vs : List Value} (ha : a ∈ A) (e : h.get? a = some { cls := .type "tuple", data := .seq vs.toArray }) : (∀ u ∈ vs, OkU A u) ∧ SqT K (argH K h A) a (vs.map toV) := by
  obtain ⟨us, h1, h2, h3⟩ := ar a ha
  have hu : us = vs := by
    rcases h3 with q | q
    · rw [e] at q
      exact absurd (Value.type.inj (seq_inj q).1) (by decide)
    · rw [e] at q
      exact (seq_inj q).2.symm
  subst hu
  refine ⟨h2, ?_⟩
  cases hk : K.lookup a with
  | none => exact .inl (.inr ⟨_, by rw [argH_at ha hk e, hoOf_tup]⟩)
  | some o =>
    have e2 := KX a o hk
    rw [e] at e2
    obtain rfl := Option.some.inj e2
    exact .inr ⟨_, us.toArray, _, hk, rfl, rfl, by rw [List.size_toArray]; exact h1, by simpa using vals_toV h2⟩
mutual
theorem dw_one {Pm : Params} (KX : K.In h) (ar : ∀ a ∈ A, ArgOb h A a) : ∀ (d : WData) (v : Value), Well Pm h v d → plW d = true → OkU A v → Dw K (argH K h A) (toV v) d
  | .none, _, x, _, _ => by
    cases x
    exact .non
  | .bool b, _, x, _, _ => by
    cases x
    exact .bl b
  | .int i, _, x, _, _ => by
    cases x
    exact .int i
  | .str s, _, x, _, _ => by
    cases x
    exact .str s
  | .bytes b, _, x, _, _ => by
    cases x
    have z := Dw.byt (K := K) (H := argH K h A) b.toArray
    exact z
  | .list ds, _, x, p, hu => by
    obtain ⟨a, vs, rfl, ho, hall⟩ := well_list x
    obtain ⟨h2, hs⟩ := argL KX ar hu ho
    exact .lst hs (dw_all KX ar ds _ hall p h2)
  | .tuple ds, _, x, p, hu => by
    obtain ⟨a, vs, rfl, ho, hall⟩ := well_tuple x
    obtain ⟨h2, hs⟩ := argT KX ar hu ho
    exact .tup hs (dw_all KX ar ds _ hall p h2)
  | .float _, _, _, p, _ => Bool.noConfusion (show false = true from p)
  | .dict _, _, _, p, _ => Bool.noConfusion (show false = true from p)
  | .bytearray _, _, _, p, _ => Bool.noConfusion (show false = true from p)
  | .set _, _, _, p, _ => Bool.noConfusion (show false = true from p)
  | .frozenset _, _, _, p, _ => Bool.noConfusion (show false = true from p)
  | .obj _ _, _, _, p, _ => Bool.noConfusion (show false = true from p)
theorem dw_all {Pm : Params} (KX : K.In h) (ar : ∀ a ∈ A, ArgOb h A a) : ∀ (ds : List WData) (vs : List Value), WellAll Pm h vs ds → plWs ds = true → (∀ u ∈ vs, OkU A u) → DwAll K (argH K h A) (vs.map toV) ds
  | [], _, x, _, _ => by
    cases x
    exact .nil
  | d :: ds, _, x, p, hu => by
    obtain ⟨v, vs, rfl, x1, x2⟩ := well_cons x
    have q : plW d = true ∧ plWs ds = true := Bool.and_eq_true_iff.mp p
    exact .cons (dw_one KX ar d v x1 q.1 (hu _ (List.mem_cons_self ..))) (dw_all KX ar ds vs x2 q.2 fun u m => hu u (List.mem_cons_of_mem _ m))
end
end
/-! ### the call -/
theorem spec_call {P : Program} {w : World} {K : PySem.W.Frag} {mg mb : Str → Option Value} {CX : CXT} {k : Nat} {fa : Addr} {fd : FuncData} {ps : List Str} {sp : Sp} {s₁ : Shared} {vals : List Value} {ds : List WData} {R : PySem.W.WRecords} {cl : Str → Option Addr} {d0 : WData}
    (KX : K.In s₁.heap) (hns : s₁.heap.Ns mainGlobals mg) (hb : s₁.heap.Ns builtinsNs mb) (hbb : ∀ x : Str, x ≠ "__name__" → mb x = bootBuiltins x) (hlim : s₁.heap.NoLimit) (hg : s₁.gens = #[])
    (hwl : WellAll w.params s₁.heap vals ds) (hpl : plWs ds = true) (hwt : ∀ d ∈ ds, d.weight ≤ 1048576) (hr : Room k callerA)
    (F : ∀ base : Heap, K.In base → base.Ns mainGlobals mg → FnOk P w K mg base CX k fa fd ps sp) (hbind : ∀ (s : Shared) (us : List Value), us.length = ps.length → BindsTo s fd ⟨us, []⟩ (ps.zip us)) (hlen : ds.length = ps.length)
    (hsp : ∀ (H : Hp) (xs : List V), OnlyF H → DwAll K H xs ds → sp xs H (fun v H' => Dw K H' v d0) fun _ _ _ => False)
    (hCX : ∀ H e s', CX [] H s₁ (fun _ _ _ => False) e s' → False) :
    codeAny (model P w) callerA (.call (.ref fa) ⟨vals, []⟩) (fun r s' => ∃ u as, r = .ok (.ret u) ∧ ReadsW R cl s'.heap u d0 as ∧ OldK s₁.heap s'.heap ∧ s'.os = s₁.os ∧ AllBare s'.gens) s₁ := by
  obtain ⟨A, ho, ar⟩ := area_all ds vals hwl hpl hwt
  have hO : OnlyF (argH K s₁.heap A) := argH_only ar
  have hok : HOk P w (argH K s₁.heap A) s₁.heap := argH_ok ar
  have hS := dw_all KX ar ds vals hwl hpl ho
  have hV := vals_toV ho
  have hK : ∀ b u, argH K s₁.heap A b = some u → K.lookup b = none := fun b u q => (argH_is ar q).1
  have noA : ∀ {b : Addr} {o : Obj} {es : Array DictEntry} {ep : Nat}, s₁.heap.get? b = some o → o.data = .dict es ep → argH K s₁.heap A b = none := fun {b o es ep} e d => by
    cases q : argH K s₁.heap A b with
    | none => rfl
    | some u =>
      obtain ⟨_, vs, _, _, ⟨e2, _⟩ | ⟨e2, _⟩⟩ := argH_is ar q
      · rw [e2] at e
        cases e
        have d' : Data.seq vs.toArray _ = Data.dict es ep := d
        cases d'
      · rw [e2] at e
        cases e
        have d' : Data.seq vs.toArray _ = Data.dict es ep := d
        cases d'
  generalize argH K s₁.heap A = H at hO hok hS hK noA
  have base_of : ∀ {b : Addr} {o : Obj}, s₁.heap.get? b = some o → H b = none → (hidT s₁.heap H).get? b = some o := fun e n => hidT_get e n
  have nsK : ∀ {b : Addr} {m : Str → Option Value}, s₁.heap.Ns b m → (hidT s₁.heap H).Ns b m := fun {b m} ⟨o, es, ep, e, d, r⟩ => ⟨o, es, ep, base_of e (noA e d), d, r⟩
  have nK : ∀ b o, K.lookup b = some o → H b = none := fun b o e => by
    cases q : H b with
    | none => rfl
    | some u =>
      rw [hK b u q] at e
      cases e
  have hKb : K.In (hidT s₁.heap H) := fun b o e => base_of (KX b o e) (nK b o e)
  have hM : Mod K mg (hidT s₁.heap H) := ⟨hKb, nsK hns, ⟨mb, nsK hb, hbb⟩, let ⟨mc, h1, h2⟩ := hlim; ⟨mc, nsK h1, h2⟩⟩
  have e0 : Env0 P w K mg (hidT s₁.heap H) callerA [] s₁ H := ⟨rfl, hM, fun b o e => of_hidT e, Nat.le_of_eq (hidT_size _ _), trivial, fun b hb => absurd (show b ∈ ([] : List Addr) from hb) (by simp), hok, .of_eq hg⟩
  have hl : vals.length = ps.length := by rw [wellAll_len hwl]; exact hlen
  refine codeAny_mono ((F _ hKb (nsK hns)).run callerA [] s₁ H ⟨vals, []⟩ vals (vals.map toV) _ _ hr e0 (hbind s₁ vals hl) hV (hsp H _ hO hS)) fun r s' x => ?_
  cases r with
  | error e => exact (hCX H e s' x).elim
  | ok fl =>
    cases fl with
    | next => exact False.elim x
    | brk => exact False.elim x
    | cont => exact False.elim x
    | ret u =>
      obtain ⟨v, H', os, bare, un, hok', r', q⟩ := x
      have kept : ∀ b o, s₁.heap.get? b = some o → s'.heap.get? b = some o := fun b o e => by
        cases q2 : H b with
        | none => exact un.keep b o e q2 (by intro z; exact absurd (show b ∈ ([] : List Addr) from z) (by simp)) (by simp)
        | some u2 =>
          rcases hO b with z | ⟨ob, u3, z⟩
          · rw [q2] at z
            cases z
          · have z2 := un.frzs b ob _ z
            obtain ⟨e1, _⟩ := hok b _ z
            obtain ⟨e2, _⟩ := hok' b _ z2
            rw [e] at e1
            cases e1
            exact e2
      have KX' : K.In s'.heap := fun b o e => kept b o (KX b o e)
      obtain ⟨as, hrd⟩ := Dw.reads (R := R) (cl := cl) hok' KX' d0 v u q r'
      exact ⟨u, as, rfl, hrd, OldK.of_keep kept, os, bare⟩
/-! ### the row -/
theorem layable_weight {ds : List WData} (h : WData.layableAll ds = true) : ∀ d ∈ ds, d.weight ≤ 1048576 := fun d hd =>
  (PySem.W.layableW_iff.mp (List.all_eq_true.mp h d hd)).2.2
theorem encAll_len : ∀ (cs : List Codec) (a : Codec.denoteAll cs), (Codec.encAll cs a).length = cs.length
  | [], _ => rfl
  | c :: cs, a => by
    show (Codec.encAll cs a.2).length + 1 = cs.length + 1
    rw [encAll_len cs a.2]
/-- the goal that k_headS leaves (case hc), from the promise of the row's def: whatever the arguments that the codecs let and the row asks for, the def gives what stands for enc (f ..) -/
theorem walk_spec {r : OpenSpec} {k : Nat} {q : Program} {loose : List Str} {XP : (Str → Option Value) → Heap → Prop} {YP : World → Heap → Prop} {d : DefRec} {K : Params → PySem.W.Frag} {CX : World → CXT} {ps : List Str} {sp : World → Sp}
    (hwell : r.wellSaid = true) (hdf : d.params.defaults = []) (hlen : r.args.length = ps.length) (hr : Room k callerA)
    (hY : ∀ (w : World) (h : Heap), YP w h → (K w.params).In h)
    (F : ∀ (w : World) (mg : Str → Option Value) (fa : Addr) (h : Heap), YP w h → (K w.params).In h → h.Ns mainGlobals mg → mg d.name = some (.ref fa) →
      ∃ fd : FuncData, (∀ (s : Shared) (us : List Value), us.length = ps.length → BindsTo s fd ⟨us, []⟩ (ps.zip us)) ∧
        ∀ base : Heap, (K w.params).In base → base.Ns mainGlobals mg → FnOk r.prog w (K w.params) mg base (CX w) k fa fd ps (sp w))
    (hsp : ∀ (w : World) (H : Hp) (xs : List V) (a : Codec.denoteAll r.args), OnlyF H → Codec.withinAll r.args a = true → Codec.app r.args r.asked a = true → DwAll (K w.params) H xs (Codec.encAll r.args a) →
      sp w xs H (fun v H' => Dw (K w.params) H' v (r.ret.enc (Codec.app r.args r.f a))) fun _ _ _ => False)
    (hCX : ∀ (w : World) (H : Hp) (s : Shared) (e : Value) (s' : Shared), CX w [] H s (fun _ _ _ => False) e s' → False) :
    PySem.W.WalkOS q loose XP YP r d [] (fun f vs => PySem.call f vs) := by
  intro w s_0 s₁ mg mb G Y fa o pm cd doc dV kV ho hd hcd hD hmg hg args vals as hpre hlay hrd hwl hlo
  obtain ⟨a, e1, e2⟩ := PySem.W.os_pre_some hpre
  obtain ⟨e3, hwi⟩ := Codec.encAll_of_decAll r.args args a e1
  subst e3
  have KX := hY w _ Y
  obtain ⟨fd, hb, hF⟩ := F w mg fa _ Y KX G.T.g hmg
  refine PySem.W.enter_call (codeAny_mono (spec_call (R := []) (cl := classAt s_0.heap) (d0 := r.ret.enc (Codec.app r.args r.f a)) KX G.T.g G.T.b G.T.builtins G.T.nolimit hg hwl (pl_encAll _ _) (layable_weight hlay) hr hF hb (by rw [encAll_len]; exact hlen)
    (fun H xs hO hS => hsp w H xs a hO hwi e2 hS) fun H e s' => hCX w H s₁ e s') fun r' s' hq => ?_)
  obtain ⟨u, as', rfl, h1, h2, h3, h4⟩ := hq
  exact ⟨.inl ⟨u, _, as', rfl, fun _ => rfl, h1, (OpenSpec.post_iff hwell hwi _ _).mpr rfl, fun z => Bool.noConfusion (show false = true from z)⟩, h2, h3, h4⟩
/-- the same where the promise hangs on the written part alone -/
theorem walk_specK {r : OpenSpec} {k : Nat} {q : Program} {loose : List Str} {XP : (Str → Option Value) → Heap → Prop} {YP : World → Heap → Prop} {d : DefRec} {K : Params → PySem.W.Frag} {CX : CXT} {ps : List Str} {sp : PySem.W.Frag → Sp}
    (hwell : r.wellSaid = true) (hdf : d.params.defaults = []) (hlen : r.args.length = ps.length) (hr : Room k callerA)
    (hY : ∀ (w : World) (h : Heap), YP w h → (K w.params).In h)
    (F : ∀ (w : World) (mg : Str → Option Value) (fa : Addr) (h : Heap), YP w h → (K w.params).In h → h.Ns mainGlobals mg → mg d.name = some (.ref fa) →
      ∃ fd : FuncData, (∀ (s : Shared) (us : List Value), us.length = ps.length → BindsTo s fd ⟨us, []⟩ (ps.zip us)) ∧
        ∀ base : Heap, (K w.params).In base → base.Ns mainGlobals mg → FnOk r.prog w (K w.params) mg base CX k fa fd ps (sp (K w.params)))
    (hsp : ∀ (K : PySem.W.Frag) (H : Hp) (xs : List V) (a : Codec.denoteAll r.args), OnlyF H → Codec.withinAll r.args a = true → Codec.app r.args r.asked a = true → DwAll K H xs (Codec.encAll r.args a) →
      sp K xs H (fun v H' => Dw K H' v (r.ret.enc (Codec.app r.args r.f a))) fun _ _ _ => False)
    (hCX : ∀ (H : Hp) (s : Shared) (e : Value) (s' : Shared), CX [] H s (fun _ _ _ => False) e s' → False) :
    PySem.W.WalkOS q loose XP YP r d [] (fun f vs => PySem.call f vs) :=
  walk_spec (K := K) (CX := fun _ => CX) (sp := fun w => sp (K w.params)) hwell hdf hlen hr hY F (fun w H xs a h1 h2 h3 h4 => hsp (K w.params) H xs a h1 h2 h3 h4) fun _ H s e s' => hCX H s e s'
end L2
end
section
set_option Elab.async false
set_option maxRecDepth 100000
/-! SHORT WORDS over the layer: a def of the text, its body, what a loop and a test want. -/
namespace L2
open PySem PySem.Spec PyProof.Rows

/-! ### the text by places -/
/-- the j-th statement of a class's body -/
def inClass (s : Stmt) (j : Nat) : Stmt := match s with
  | .ClassDef _ _ _ body _ _ _ _ _ _ _ => body.getD j (.Pass ⟨0, 0, 0, 0⟩)
  | _ => .Pass ⟨0, 0, 0, 0⟩
def defArgs (s : Stmt) : Arguments := match s with
  | .FunctionDef _ a _ _ _ _ _ _ _ _ => a
  | _ => { posonlyargs := [], args := [], vararg := none, kwonlyargs := [], kw_defaults := [], kwarg := none, defaults := [] }
def defBody (s : Stmt) : List Stmt := match s with
  | .FunctionDef _ _ b _ _ _ _ _ _ _ => b
  | _ => []
def defScope (s : Stmt) : Scope := match s with
  | .FunctionDef _ _ _ _ _ _ sc _ _ _ => sc
  | _ => { kind := .function, names := [], isGenerator := false, isCoroutine := false }

/-! ### no exception leaves a def -/
abbrev CX0 : CXT := fun _ _ _ _ _ _ => False
abbrev E0 : XK := fun _ _ _ => False
theorem pass0 {X : Cx} : Passes CX0 X E0 := fun _ _ _ _ _ _ _ h => h.elim

/-! ### a def (or method) of the text as it stands behind the top -/
structure Fun (K : PySem.W.Frag) (x qual : Str) (st : Stmt) (f : Addr) (fd : FuncData) : Prop where
  ex : ∃ (oc : Value) (od : Option Addr) (kV doc pm : Value) (an : Option Addr) (cdv ct : Value) (osl : Array (Option Value)),
    fd = PySem.W.fnOf x qual (defArgs st) (defBody st) (defScope st) .none kV doc pm an cdv ct ∧ K.lookup f = some ⟨oc, od, .func fd, osl⟩ ∧ PySem.W.codeIn K cdv qual = true
  kp : PySem.W.keepIn K (.ref f) = true
section
variable {P : Program} {w : World} {K : PySem.W.Frag} {mg : Str → Option Value} {base : Heap}
/-- THE RULE for a def: its body as a term of rules, and the reading of that term -/
theorem Fun.ok {x qual : Str} {st : Stmt} {f : Addr} {fd : FuncData} {N ps : List Str} {k : Nat} {sp : Sp} (F : Fun K x qual st f fd) (S : FnScope N ps (defScope st)) (len : ∀ vs H Q E, sp vs H Q E → vs.length = ps.length)
    (hbody : ∀ (cdv : Value) (A : Around) (outer : List Env) (s : Shared) (H : Hp) (vs : List V) (Q : VK) (E : XK), Room k (A.deeper (envOfC qual (defScope st) s.heap.objs.size f cdv)) → sp vs H Q E →
      ∃ t, PSs (cxOf CX0 P w K mg base N qual (defScope st) f cdv A outer s H E).nox (defBody st) t ∧ t { nx := fun _ H' => Q .non H', rt := Q } (start N vs) H) : FnOk P w K mg base CX0 (k + 1) f fd ps sp := by
  obtain ⟨oc, od, kV, doc, pm, an, cdv, ct, osl, rfl, lk, hcd⟩ := F.ex
  refine fn_of lk hcd S len fun A outer s H vs Q E hr hsp => ?_
  obtain ⟨t, h, q⟩ := hbody cdv A outer s H vs Q E hr hsp
  exact ⟨t, h.nox, q⟩
/-- how its arguments bind (no defaults): h is «fun _ _ _ _ _ _ us hl => match us, hl with | [_, _], _ => rfl», one _ a parameter -/
theorem Fun.binds {x qual : Str} {st : Stmt} {f : Addr} {fd : FuncData} {ps : List Str} (F : Fun K x qual st f fd)
    (h : ∀ (kV doc pm : Value) (an : Option Addr) (cdv ct : Value) (us : List Value), us.length = ps.length → bindArgs (PySem.W.fnOf x qual (defArgs st) (defBody st) (defScope st) .none kV doc pm an cdv ct) ⟨us, []⟩ = pure (ps.zip us)) : Binds K fd ps [] := by
  obtain ⟨oc, od, kV, doc, pm, an, cdv, ct, osl, rfl, lk, hcd⟩ := F.ex
  exact .all (h kV doc pm an cdv ct)
theorem fun_mk {x qual : Str} {st : Stmt} {f : Addr} {oc : Value} {od an : Option Addr} {osl : Array (Option Value)} {kV doc pm cdv ct : Value} (l : K.lookup f = some ⟨oc, od, .func (PySem.W.fnOf x qual (defArgs st) (defBody st) (defScope st) .none kV doc pm an cdv ct), osl⟩)
    (c : PySem.W.codeIn K cdv qual = true) (k : PySem.W.keepIn K (.ref f) = true) : Fun K x qual st f (PySem.W.fnOf x qual (defArgs st) (defBody st) (defScope st) .none kV doc pm an cdv ct) := ⟨⟨oc, od, kV, doc, pm, an, cdv, ct, osl, rfl, l, c⟩, k⟩
end
theorem hu_of {A : Around} {k : Nat} (hr : Room k A) : A.units + 1 < cLine := Nat.lt_of_le_of_lt (Nat.add_le_add_left (by decide : 1 ≤ 64) _) hr.units
/-! ### expressions in short: the name that stands in the i-th slot -/
section
variable {X : Cx}
theorem pv (i : Nat) {x : Str} {pos : Pos} (hN : X.N[i]? = some x := by rfl) (hv : Vis X.env.scope x := by first | exact Or.inl rfl | exact Or.inr (Or.inl rfl) | exact Or.inr (Or.inr rfl)) (hd : (x == ("__debug__" : Str)) = false := by decide)
    (hcd : (x == ("__classdict__" : Str)) = false := by decide) : PE X (.Name x pos) (tVar i) := pe_var hN hv hd hcd
end

/-! ### tests -/
theorem iteF {A B : Prop} (h : B) : if false = true then A else B := by
  rw [if_neg Bool.false_ne_true]
  exact h
theorem iteT {A B : Prop} (h : A) : if true = true then A else B := by
  rw [if_pos rfl]
  exact h
/-! ### heaps -/
/-- all that was tracked is as it was -/
def Same (H H' : Hp) : Prop := ∀ b o, H b = some o → H' b = some o
theorem Same.refl (H : Hp) : Same H H := fun _ _ h => h
theorem Same.trans {H H1 H2 : Hp} (a : Same H H1) (b : Same H1 H2) : Same H H2 := fun c o h => b c o (a c o h)
theorem Same.seq {K : PySem.W.Frag} {H H' : Hp} {a : Addr} {xs : List V} (e : Same H H') (h : SqL K H a xs) : SqL K H' a xs := by
  rcases h with (h | ⟨o, h⟩) | h
  · exact .inl (.inl (e _ _ h))
  · exact .inl (.inr ⟨o, e _ _ h⟩)
  · exact .inr h

/-! ### a dict's pairs: keys that differ -/
section
variable {κ : Type} [DecidableEq κ]
theorem valV_in {kvs : List (κ × V)} {k : κ} {v : V} (h : valV kvs k = some v) : k ∈ kvs.map (·.1) := by
  have q : (kvs.any fun kv => decide (kv.1 = k)) = true := by
    rw [valV_any, h]
    all_goals rfl
  obtain ⟨p, hp, e⟩ := List.any_eq_true.mp q
  exact List.mem_map.mpr ⟨p, hp, of_decide_eq_true e⟩
end
/-! ### lists -/
/-- a new instance and its __init__ leave all that was tracked as it was -/
theorem Same.made {H H1 : Hp} {x dx C : Addr} (nx : H x = Option.none) (nd : H dx = Option.none) (k : ∀ b o, (upd (upd H dx (.own x)) x (.ins C dx [])) b = some o → b ≠ x → H1 b = some o) : Same H H1 := fun b o e =>
  k b o (by rw [upd_ne (ne_of_none e nx), upd_ne (ne_of_none e nd)]; exact e) (ne_of_none e nx)
end L2

end


section
set_option Elab.async false
/-! An exception of an own class with a dict of its own: how it lies in the heap while it leaves frames. -/
namespace XB
open PySem

/-- the frames of callers -/
abbrev fra (l : List Env) : List Addr := l.filterMap (·.frame)

/-- raised: no entry yet -/
structure Fresh (h : Heap) (e C dx : Addr) : Prop where
  ex : ∃ vs sl, h.get? e = some { cls := .ref C, dict := some dx, data := .fields vs, slots := sl } ∧ vs[1]? = some .none
/-- in flight, between two frames: its newest entry T is of no frame's flight -/
structure Flies (h : Heap) (e C dx T : Addr) : Prop where
  ex : ∃ vs sl, h.get? e = some { cls := .ref C, dict := some dx, data := .fields vs, slots := sl } ∧ vs[1]? = some (.ref T)
  tb : ∃ oT ts, h.get? T = some oT ∧ oT.data = .fields ts ∧ ts[3]? = some .none
  ne : T ≠ e

section
variable {M : Model} {A : Around} {E : Value → Shared → Prop} {s : Shared} {Q : Unit → Shared → Prop} {e C dx T : Addr}
/-- its flight ends -/
theorem land {vs ts : Array Value} {sl : Array (Option Value)} {oT : Obj} (he : s.heap.get? e = some { cls := .ref C, dict := some dx, data := .fields vs, slots := sl }) (h1 : vs[1]? = some (.ref T))
    (hT : s.heap.get? T = some oT) (hd : oT.data = .fields ts) (sz : 3 < ts.size) (ne : T ≠ e)
    (h : ∀ h', Flies h' e C dx T → (∀ b o, b ≠ T → s.heap.get? b = some o → h'.get? b = some o) → Q () { s with heap := h' }) : wpAny M A (setFlight (.ref e) none) Q E s := by
  unfold setFlight
  refine wpAny_bind (wpAny_field he rfl h1 ?_)
  rw [if_pos (by simp)]
  refine wpAny_setField hT hd sz (h _ ⟨⟨vs, sl, ?_, h1⟩, ⟨_, _, Heap.get?_update_self _ hT (Obj.isFreed_of_fields (Obj.data_mapFields hd _)), Obj.data_mapFields hd _, ?_⟩, ne⟩ fun b o hb hh => ?_)
  · rw [Heap.get?_update_other _ _ ne]
    exact he
  · show (ts.setIfInBounds 3 Value.none)[3]? = some Value.none
    simp [sz]
  · rw [Heap.get?_update_other _ _ (Ne.symm hb)]
    exact hh
/-- .. once more -/
theorem land_again (X : Flies s.heap e C dx T)
    (h : ∀ h', Flies h' e C dx T → (∀ b o, b ≠ T → s.heap.get? b = some o → h'.get? b = some o) → Q () { s with heap := h' }) : wpAny M A (setFlight (.ref e) none) Q E s := by
  obtain ⟨⟨vs, sl, he, h1⟩, ⟨oT, ts, hT, hd, h3⟩, ne⟩ := X
  exact land he h1 hT hd (Array.getElem?_eq_some_iff.mp h3).1 ne h
end

section
variable {M : Model} {A : Around} {E : Value → Shared → Prop} {s : Shared} {Q : Unit → Shared → Prop} {e C dx L : Addr} {env : Env} {outer : List Env} {base : Heap}

/-- what an entry more leaves as it was: all but the frames, the exception, the entry ahead -/
structure Noted (l : List Env) (h h' : Heap) (e : Addr) (T0 : Option Addr) : Prop where
  keep : ∀ b o, b ∉ fra l → b ≠ e → T0 ≠ some b → h.get? b = some o → h'.get? b = some o
  slot : ∀ b o, b ∈ fra l → h.get? b = some o → ∃ sl, h'.get? b = some { o with slots := sl }

/-- a new entry for the frame of env; then its flight ends -/
theorem entry_new {vs : Array Value} {sl : Array (Option Value)} {head : Value} {nx : Bool} (hfr : A.frames = some (env :: outer)) (hl : s.heap.FunFrames base (env :: outer)) (hf : env.frame = some L)
    (he : s.heap.get? e = some { cls := .ref C, dict := some dx, data := .fields vs, slots := sl }) (sz : 1 < vs.size)
    (h : ∀ h' T, Flies h' e C dx T → s.heap.objs.size ≤ T → Noted (env :: outer) s.heap h' e none → Q () { s with heap := h' }) :
    wpAny M A (frameOf env >>= fun a => entryPlaceOf L nx >>= fun pl => EntryCells.newEntry head a .none (rawInt L) .none pl >>= fun b => setField (.ref e) 1 b)
      (fun _ s' => wpAny M A (setFlight (.ref e) none) Q E s') E s := by
  have ene : e ∉ fra (env :: outer) := fun hm => by
    obtain ⟨_, o, ho, hnf⟩ := hl.mem hm
    rw [he] at ho
    cases ho
    exact hnf vs rfl
  refine wpAny_bind (wpAny_frameOf_fun hfr hl hf fun h1 hs1 => ?_)
  refine wpAny_bind (wpAny_entryPlaceOf fun pl hpl => ?_)
  unfold EntryCells.newEntry newFields
  refine wpAny_bind (wpAny_newObj_type ?_ (hpl.sizeOk5 _ _ _ _ _))
  generalize hts : ([head, .ref L, .none, rawInt L, .none] ++ (if pl.isEmpty then List.replicate 6 Value.none else pl)).toArray = ts
  have tsz : 3 < ts.size := by
    rw [← hts, List.size_toArray, List.length_append]
    simp only [List.length_cons, List.length_nil]
    omega
  have he1 : h1.get? e = some { cls := .ref C, dict := some dx, data := .fields vs, slots := sl } := (hs1.2.1 e ene).trans he
  have he2 := Heap.get?_push_of_some (h := h1) { cls := .type "traceback", dict := none, data := .fields ts } he1
  have hTe : h1.objs.size ≠ e := Nat.ne_of_gt (Heap.lt_size he1)
  refine wpAny_setField he2 rfl sz ?_
  refine land (C := C) (dx := dx) (T := h1.objs.size) (vs := vs.setIfInBounds 1 (.ref h1.objs.size)) (ts := ts) (sl := sl) ?_ ?_ ((Heap.get?_update_other _ _ (Ne.symm hTe)).trans (Heap.get?_push_size h1 rfl)) rfl tsz hTe fun h' F k => ?_
  · exact (Heap.get?_update_self _ he2 rfl).trans rfl
  · simp [sz]
  · have up : ∀ b o, b ≠ e → h1.get? b = some o → h'.get? b = some o := fun b o hb hh => by
      have hbT : b ≠ h1.objs.size := Nat.ne_of_lt (Heap.lt_size hh)
      refine k b o hbT ?_
      show ((h1.push _).update e _).get? b = some o
      rw [Heap.get?_update_other _ _ (Ne.symm hb)]
      exact Heap.get?_push_of_some _ hh
    refine h h' _ F (by rw [hs1.1]; exact Nat.le_refl _) ⟨fun b o hb1 hb2 _ hh => up b o hb2 ((hs1.2.1 b hb1).trans hh), fun b o hb1 hh => ?_⟩
    obtain ⟨sl', q⟩ := hs1.2.2 b o hh
    exact ⟨sl', up b _ (fun z => ene (z ▸ hb1)) q⟩

/-- the exception leaves the frame in which it was raised -/
theorem note_first (hfr : A.frames = some (env :: outer)) (hl : s.heap.FunFrames base (env :: outer)) (hf : env.frame = some L) (X : Fresh s.heap e C dx)
    (h : ∀ h' T, Flies h' e C dx T → s.heap.objs.size ≤ T → Noted (env :: outer) s.heap h' e none → Q () { s with heap := h' }) :
    wpAny M A (noteFrame (.ref e) env) (fun _ s' => wpAny M A (setFlight (.ref e) none) Q E s') E s := by
  obtain ⟨vs, sl, he, h1⟩ := X.ex
  unfold noteFrame
  simp only [hf]
  refine wpAny_bind (wpAny_field he rfl h1 ?_)
  rw [if_neg (by decide)]
  exact entry_new hfr hl hf he (Array.getElem?_eq_some_iff.mp h1).1 h
/-- .. a caller's frame -/
theorem note_next {T0 : Addr} (hfr : A.frames = some (env :: outer)) (hl : s.heap.FunFrames base (env :: outer)) (hf : env.frame = some L) (X : Flies s.heap e C dx T0)
    (h : ∀ h' T, Flies h' e C dx T → s.heap.objs.size ≤ T → Noted (env :: outer) s.heap h' e (some T0) → Q () { s with heap := h' }) :
    wpAny M A (noteFrame (.ref e) env) (fun _ s' => wpAny M A (setFlight (.ref e) none) Q E s') E s := by
  obtain ⟨⟨vs, sl, he, h1⟩, ⟨oT, ts, hT, hd, h3⟩, ne⟩ := X
  have n3 : ∀ b o, s.heap.get? b = some o → (∀ ws, o.data ≠ .fields ws) → b ≠ T0 := fun b o hb hn q => by
    rw [q, hT] at hb
    cases hb
    exact hn ts hd
  have oth : ∀ b, b ≠ T0 → (s.heap.update T0 (Obj.mapFields (·.setIfInBounds 3 Value.none))).get? b = s.heap.get? b := fun b hb => Heap.get?_update_other _ _ (Ne.symm hb)
  unfold noteFrame
  simp only [hf]
  refine wpAny_bind (wpAny_field he rfl h1 ?_)
  rw [if_pos (by simp)]
  refine wpAny_bind (wpAny_field hT hd h3 ?_)
  rw [if_neg (by simp [rawInt])]
  refine wpAny_bind (wpAny_setField hT hd (Array.getElem?_eq_some_iff.mp h3).1 ?_)
  refine entry_new (base := base) hfr (hl.of_keeps fun b o hb hn => ⟨o, (oth b (n3 b o hb hn)).trans hb, rfl⟩) hf ((oth e (Ne.symm ne)).trans he) (Array.getElem?_eq_some_iff.mp h1).1 fun h' T F nT N => ?_
  refine h h' T F (Nat.le_trans (Nat.le_of_eq (Heap.size_after_update ..).symm) nT) ⟨fun b o h1 h2 h3 hb => N.keep b o h1 h2 (by simp) ((oth b fun q => h3 (by rw [q])).trans hb), fun b o h1 hb => ?_⟩
  have nb : b ≠ T0 := by
    obtain ⟨_, o', ho, hn⟩ := hl.mem h1
    exact n3 b o' ho hn
  exact N.slot b o h1 ((oth b nb).trans hb)
theorem leave_first (hfr : A.frames = some (env :: outer)) (hl : s.heap.FunFrames base (env :: outer)) (hf : env.frame = some L) (X : Fresh s.heap e C dx)
    (h : ∀ h' T, Flies h' e C dx T → s.heap.objs.size ≤ T → Noted (env :: outer) s.heap h' e none → Q () { s with heap := h' }) : wpAny M A (leaving env (.ref e)) Q E s := by
  unfold leaving
  exact wpAny_bind (note_first hfr hl hf X h)
theorem leave_next {T0 : Addr} (hfr : A.frames = some (env :: outer)) (hl : s.heap.FunFrames base (env :: outer)) (hf : env.frame = some L) (X : Flies s.heap e C dx T0)
    (h : ∀ h' T, Flies h' e C dx T → s.heap.objs.size ≤ T → Noted (env :: outer) s.heap h' e (some T0) → Q () { s with heap := h' }) : wpAny M A (leaving env (.ref e)) Q E s := by
  unfold leaving
  exact wpAny_bind (note_next hfr hl hf X h)
end
end XB

end

section
set_option Elab.async false
set_option maxRecDepth 100000
/-! Exceptions of an own class under ValueError whose __init__ stores attributes: raised, read, caught. -/
namespace XB
open PySem

abbrev bmV : List Value := [.type "ValueError", .type "Exception", .type "BaseException", .type "object"]

/-- the class at C stands in the heap; its __init__ is fI, the names of ns are no attributes of it -/
structure Cls (h : Heap) (C fI : Addr) (ns : List Str) : Prop where
  ex : ∃ (nm q : Str) (N : Addr) (bs : List Value) (sn : List Str) (sub : List Value) (ab : Bool) (col : Option Bool) (dd : Option Addr) (k0 k1 k2 k3 k5 : Option Value) (mN : Str → Option Value),
    h.get? C = some (excClassObj nm q C N bs bmV true sn sub ab col dd k0 k1 k2 k3 k5 "ValueError.__new__") ∧ h.Ns N mN ∧ mN "__init__" = some (.ref fI) ∧ mN "__setattr__" = none ∧ mN "__getattribute__" = none ∧ mN "__getattr__" = none ∧ ∀ x ∈ ns, mN x = none
section
variable {M : Model} {A : Around} {E : Value → Shared → Prop} {s : Shared} {env : Env} {C fI : Addr} {ns : List Str}

/-- raise of an exception that has been made -/
theorem raise_made {x : Sem Value} {Q : Flow → Shared → Prop} (hh : A.handled = none)
    (h : wpAny M A x (fun v s1 => ∃ e dx vs sl, v = .ref e ∧ Cls s1.heap C fI ns ∧ s1.heap.get? e = some { cls := .ref C, dict := some dx, data := .fields vs, slots := sl } ∧ vs[1]? = some .none ∧ E (.ref e) s1) E s) :
    wpAny M A (raiseStmt env (some x) none) Q E s := by
  unfold raiseStmt
  refine wpAny_bind (wpAny_mono h (fun v s1 h1 => ?_) fun _ _ z => z)
  obtain ⟨e, dx, vs, sl, rfl, X, he, hv, hE⟩ := h1
  obtain ⟨nm, q, N, bs, sn, sub, ab, col, dd, k0, k1, k2, k3, k5, mN, hC, _⟩ := X.ex
  have hcB : (Value.ref C :: bmV).contains (.type "BaseException") = true := by
    rw [List.contains_cons, show bmV.contains (.type "BaseException") = true from by decide +kernel, Bool.or_true]
  obtain ⟨hp, g, d, tk, os⟩ := s1
  repeat (first | with_reducible refine wpAny_loadPart_at he ?_ | with_reducible refine wpAny_loadPart_at hC ?_ | (with_reducible refine wpAny_isSubtype_exc hC ?_; rw [hcB]) | with_reducible refine wpAny_field he rfl hv ?_ | wp_step)
  exact wpAny_raiseNew_none hh hE
end

section
variable {prog : Program} {w : World} {A : Around} {E : Value → Shared → Prop} {h : Heap} {g : Array GenState} {d : Drawn} {t : Nat} {os : OsState} {C fI e dx : Addr} {ns : List Str} {name : Str} {v : Value} {mA : Str → Option Value} {vs : Array Value} {sl : Array (Option Value)}

end

section
variable {prog : Program} {w : World} {A : Around} {E : Value → Shared → Prop} {h : Heap} {g : Array GenState} {d : Drawn} {t : Nat} {os : OsState} {C fI e dx : Addr} {ns : List Str} {name : Str} {v : Value} {mA : Str → Option Value} {vs : Array Value} {sl : Array (Option Value)}

/-- a goal put aside: no step goes on in it -/
structure Park (p : Prop) : Prop where
  out : p
set_option maxHeartbeats 2000000 in
/-- the first attribute of an exception that has no dict yet -/
theorem set_entry0 {tk : Tok} {Q : Fin → Shared → Prop} (X : Cls h C fI ns) (hna : name ∈ ns) (hB : typeLookup (.type "ValueError") name = pure none)
    (hx : h.get? e = some { cls := .ref C, dict := none, data := .fields vs, slots := sl })
    (hq : ∀ h' tk', h'.get? e = some { cls := .ref C, dict := some h.objs.size, data := .fields vs, slots := sl } → h'.Ns1 h.objs.size (fun y => if y = name then some v else none) →
      (∀ b o, b ≠ e → h.get? b = some o → h'.get? b = some o) → Q (.done (.ret .none)) ⟨h', g, d, tk', os⟩) :
    wpAny (model prog w) A (Builtin.«object.__setattr__» ⟨[.ref e, .str name tk, v], []⟩) Q E ⟨h, g, d, t, os⟩ := by
  obtain ⟨nm, q, N, bs, sn, sub, ab, col, dd, k0, k1, k2, k3, k5, mN, hC, hN, h1, h2, h3, h4, h5⟩ := id X.ex
  have SF := F.store_ValueError
  have h6 := h5 name hna
  have hpass := SF.passes (.ref e)
  unfold Builtin.«object.__setattr__»
  have hx1 : (h.push { cls := .type "dict", data := .dict #[] }).get? e = some { cls := .ref C, dict := none, data := .fields vs, slots := sl } := Heap.get?_push_of_some _ hx
  have hes : e ≠ h.objs.size := Nat.ne_of_lt (Heap.lt_size hx)
  have hnd : ((h.push { cls := .type "dict", data := .dict #[] }).update e fun o => { cls := o.cls, dict := some h.objs.size, data := o.data, slots := o.slots }).Ns h.objs.size (fun _ => none) :=
    ⟨_, #[], _, (Heap.get?_update_ne _ _ _ _ hes.symm).trans (Heap.get?_push_at rfl rfl), rfl, fun z hz => absurd hz (by simp), fun _ => rfl⟩
  repeat (first | rw [refuse_eq] | (rw [refuseLoop_ref, hpass]) | with_reducible refine wpAny_loadPart_at hx ?_ | with_reducible refine wpAny_mroOf_exc hC ?_ | (with_reducible refine wpAny_typeLookup_exc hC hN SF.mro hB ?_; rw [h6]) | with_reducible refine wpAny_nsSet1 (Heap.Ns1.of_empty hnd) (fun h' hn' hs => Park.out ?_) | wp_step)
  constructor
  obtain ⟨oD, esD, epD, hoD, hdD, hcD⟩ := hn'.count (Within.cons name v Within.nil)
  refine wpAny_bind (wpAny_lookBehind hoD (by rw [hdD]; exact pastItsLine_dict (Nat.le_trans hcD (by rw [List.length_cons, List.length_nil, sizeLine_eq]; omega))) ?_)
  wp_walk
  refine hq h' _ ((hs.2 e hes).trans (Heap.get?_update_self _ hx1 rfl)) hn' fun b o hb hh => ?_
  exact (hs.2 b (Nat.ne_of_lt (Heap.lt_size hh))).trans ((Heap.get?_update_ne _ _ _ _ hb).trans (Heap.get?_push_of_some _ hh))
theorem set_call0 {tk : Tok} {sa owner : String} {R : Result → Shared → Prop} (SF : StoreFacts "ValueError" bmV sa owner) (X : Cls h C fI ns) (hna : name ∈ ns) (hB : typeLookup (.type "ValueError") name = pure none)
    (hx : h.get? e = some { cls := .ref C, dict := none, data := .fields vs, slots := sl })
    (hq : ∀ h' tk', h'.get? e = some { cls := .ref C, dict := some h.objs.size, data := .fields vs, slots := sl } → h'.Ns1 h.objs.size (fun y => if y = name then some v else none) →
      (∀ b o, b ≠ e → h.get? b = some o → h'.get? b = some o) → R (.ok (.ret .none)) ⟨h', g, d, tk', os⟩) :
    codeAny (model prog w) A (.call (.builtin sa) ⟨[.ref e, .str name tk, v], []⟩) R ⟨h, g, d, t, os⟩ := by
  obtain ⟨nm, q, N, bs, sn, sub, ab, col, dd, k0, k1, k2, k3, k5, mN, hC, hN, _⟩ := id X.ex
  exact codeAny_call_builtin SF.slot.plain SF.entry (wpAny_check_sa SF hC hx rfl (set_entry0 X hna hB hx hq))
theorem set_attr0 {Q : Unit → Shared → Prop} (X : Cls h C fI ns) (hna : name ∈ ns) (hB : typeLookup (.type "ValueError") name = pure none)
    (hx : h.get? e = some { cls := .ref C, dict := none, data := .fields vs, slots := sl })
    (hq : ∀ h' tk', h'.get? e = some { cls := .ref C, dict := some h.objs.size, data := .fields vs, slots := sl } → h'.Ns1 h.objs.size (fun y => if y = name then some v else none) →
      (∀ b o, b ≠ e → h.get? b = some o → h'.get? b = some o) → Q () ⟨h', g, d, tk', os⟩) :
    wpAny (model prog w) A (setAttr (.ref e) name v) Q E ⟨h, g, d, t, os⟩ := by
  obtain ⟨nm, q, N, bs, sn, sub, ab, col, dd, k0, k1, k2, k3, k5, mN, hC, hN, h1, h2, h3, h4, h5⟩ := id X.ex
  have SF := F.store_ValueError
  have f3 := SF.slot.bind (.ref e)
  unfold setAttr callSpecial? specialOf
  repeat (any_goals (first | assumption | with_reducible refine wpAny_loadPart_at hx ?_ | (with_reducible refine wpAny_typeLookup_exc hC hN SF.mro SF.slot.lookup ?_; rw [h2]) | wp_step))
  refine set_call0 SF X hna hB hx fun h' tk' q1 q2 q3 => ?_
  have q4 := hq h' tk' q1 q2 q3
  repeat (any_goals (first | assumption | wp_step))
end

section
variable {prog : Program} {w : World} {A : Around} {E : Value → Shared → Prop} {s : Shared} {env : Env} {C fI e : Addr} {ns : List Str}
/-- except C: -/
theorem caught_plain {t : Expr} {b0 : Stmt} {suite : List Stmt} {pos : Pos} {rest : List ExceptHandler} {Q : Flow → Shared → Prop}
    (h : wpAny (model prog w) (A.mark (some (.ref e))) (eval t env) (fun c s1 => c = .ref C ∧ Cls s1.heap C fI ns ∧ (∃ o, s1.heap.get? e = some o ∧ o.cls = .ref C) ∧
      wpAny (model prog w) (A.mark (some (.ref e))) (setFlight (.ref e) none) (fun _ s2 => wpAny (model prog w) (A.mark (some (.ref e))) (execs (b0 :: suite) env) Q (fun _ _ => False) s2) (fun _ _ => False) s1) (fun _ _ => False) s) :
    wpAny (model prog w) A (handleBy (.ref e) env (.ExceptHandler (some t) none (b0 :: suite) pos :: rest)) Q E s := by
  refine wpAny_handleBy_cons (codeAny_handlers_test (wpAny_mono h (fun c s1 h1 => ?_) fun _ _ z => z.elim)) (by intro z; cases z)
  obtain ⟨rfl, X, ⟨o, he, hc⟩, hk⟩ := h1
  obtain ⟨nm, q, N, bs, sn, sub, ab, col, dd, k0, k1, k2, k3, k5, mN, hC, _⟩ := X.ex
  obtain ⟨hh, g, d, tk, os⟩ := s1
  refine wpAny_excMatches_sub_self hC he hc (by decide +kernel) ?_
  show codeAny _ _ _ _ _
  refine codeAny_handlers_suite ?_
  exact wpAny_mono hk (fun _ s2 h2 => wpAny_mono h2 (fun f s4 h4 => h4) fun _ _ z => z.elim) fun _ _ z => z.elim
end
end XB

end

section
set_option Elab.async false
set_option linter.all false
set_option maxRecDepth 100000
set_option maxHeartbeats 1000000
/-! EXCEPTIONS over the hand layer: an own class under ValueError whose __init__ stores attributes; raised in a def, through callers, caught in a try. -/
namespace L2
open PySem PySem.Spec PyProof.Rows

/-! ### how an exception lies behind a call -/
def CXE (P : Program) (w : World) : CXT := fun outer H s E e s' => ∃ (ea C dx T : Addr) (H' : Hp), e = .ref ea ∧ s'.os = s.os ∧ AllBare s'.gens ∧ Un (frs outer) [] H H' s.heap s'.heap ∧ HOk P w H' s'.heap ∧
  XB.Flies s'.heap ea C dx T ∧ s.heap.get? ea = none ∧ s.heap.get? T = none ∧ H' ea = none ∧ H' T = none ∧ (∃ fs, H' dx = some (.xd fs)) ∧ E (.ref C) (some dx) H'

section
variable {P : Program} {w : World} {H H' : Hp} {h h1 h2 : Heap} {env : Env} {outer l : List Env} {ea L : Addr} {T0 : Option Addr}
theorem frs_cons (hf : env.frame = some L) : frs (env :: outer) = L :: frs outer := by
  unfold frs
  rw [List.filterMap_cons, hf]
/-- an entry more: the frame's own is younger -/
theorem Un.noted (u : Un (frs outer) [] H H' h h1) (N : XB.Noted (env :: outer) h1 h2 ea T0) (hf : env.frame = some L) (hL : h.get? L = none) (he : h.get? ea = none) (hT : ∀ T, T0 = some T → h.get? T = none) :
    Un (frs outer) [] H H' h h2 := by
  have nL : ∀ {b o}, h.get? b = some o → b ≠ L := fun e z => by
    rw [z, hL] at e
    cases e
  have nE : ∀ {b o}, h.get? b = some o → b ≠ ea := fun e z => by
    rw [z, he] at e
    cases e
  have nT : ∀ {b o}, h.get? b = some o → T0 ≠ some b := fun e z => by
    rw [hT _ z] at e
    cases e
  have mem : ∀ {b}, b ∈ XB.fra (env :: outer) → b = L ∨ b ∈ frs outer := fun {b} z => by
    rw [show XB.fra (env :: outer) = L :: frs outer from frs_cons hf] at z
    exact List.mem_cons.mp z
  have mem2 : ∀ {b}, b ∈ frs outer → b ∈ XB.fra (env :: outer) := fun {b} z => by
    rw [show XB.fra (env :: outer) = L :: frs outer from frs_cons hf]
    exact List.mem_cons_of_mem _ z
  refine ⟨fun b o e n hb hx => N.keep b o (fun z => (mem z).elim (nL e) hb) (nE e) (nT e) (u.keep b o e n hb hx), fun b o e n hb hx => ?_, u.free, fun b o e hx => ?_, u.tups, u.frzs, u.tbls⟩
  · obtain ⟨sl, e1⟩ := u.slot b o e n hb hx
    obtain ⟨sl2, e2⟩ := N.slot b _ (mem2 hb) e1
    exact ⟨sl2, e2⟩
  · obtain ⟨o1, e1⟩ := u.there b o e hx
    by_cases m : b ∈ XB.fra (env :: outer)
    · obtain ⟨sl, e2⟩ := N.slot b o1 m e1
      exact ⟨_, e2⟩
    · exact ⟨o1, N.keep b o1 m (nE e) (nT e) e1⟩
/-- .. all frames are the callers' -/
theorem Un.noted2 (u : Un (frs l) [] H H' h h1) (N : XB.Noted l h1 h2 ea T0) (he : h.get? ea = none) (hT : ∀ T, T0 = some T → h.get? T = none) : Un (frs l) [] H H' h h2 := by
  have nE : ∀ {b o}, h.get? b = some o → b ≠ ea := fun e z => by
    rw [z, he] at e
    cases e
  have nT : ∀ {b o}, h.get? b = some o → T0 ≠ some b := fun e z => by
    rw [hT _ z] at e
    cases e
  refine ⟨fun b o e n hb hx => N.keep b o hb (nE e) (nT e) (u.keep b o e n hb hx), fun b o e n hb hx => ?_, u.free, fun b o e hx => ?_, u.tups, u.frzs, u.tbls⟩
  · obtain ⟨sl, e1⟩ := u.slot b o e n hb hx
    obtain ⟨sl2, e2⟩ := N.slot b _ hb e1
    exact ⟨sl2, e2⟩
  · obtain ⟨o1, e1⟩ := u.there b o e hx
    by_cases m : b ∈ XB.fra l
    · obtain ⟨sl, e2⟩ := N.slot b o1 m e1
      exact ⟨_, e2⟩
    · exact ⟨o1, N.keep b o1 m (nE e) (nT e) e1⟩
theorem HOk.noted (ok : HOk P w H' h1) (N : XB.Noted l h1 h2 ea T0) (hf : ∀ b ∈ frs l, H' b = none) (he : H' ea = none) (hT : ∀ T, T0 = some T → H' T = none) : HOk P w H' h2 := fun b o e => by
  have nn : ∀ c u, H' c = some u → c ∉ XB.fra l ∧ c ≠ ea ∧ T0 ≠ some c := fun c u q => by
    refine ⟨fun z => ?_, fun z => ?_, fun z => ?_⟩
    · rw [hf c z] at q
      cases q
    · rw [z, he] at q
      cases q
    · rw [hT c z] at q
      cases q
  refine (ok b o e).stay (fun c u hc q => ?_) (fun _ q => q) fun _ _ q => q
  have k : ∃ u', H' c = some u' := by
    rcases hc with z | z
    · exact ⟨o, by rw [z]; exact e⟩
    · exact ⟨_, z⟩
  obtain ⟨u', k⟩ := k
  obtain ⟨n1, n2, n3⟩ := nn c u' k
  exact N.keep c u n1 n2 n3 q
/-- a record that nobody tracks turned -/
theorem HOk.turned {T : Addr} (ok : HOk P w H' h1) (k : ∀ b o, b ≠ T → h1.get? b = some o → h2.get? b = some o) (hT : H' T = none) : HOk P w H' h2 := fun b o e => by
  have nn : ∀ c u, H' c = some u → c ≠ T := fun c u q z => by
    rw [z, hT] at q
    cases q
  refine (ok b o e).stay (fun c u hc q => k c u ?_ q) (fun _ q => q) fun _ _ q => q
  rcases hc with z | z
  · rw [z]
    exact nn b o e
  · exact nn c _ z
theorem Un.turned {T : Addr} {fs : List Addr} (u : Un fs [] H H' h h1) (k : ∀ b o, b ≠ T → h1.get? b = some o → h2.get? b = some o) (hT : h.get? T = none) : Un fs [] H H' h h2 := by
  have nT : ∀ {b o}, h.get? b = some o → b ≠ T := fun e z => by
    rw [z, hT] at e
    cases e
  refine ⟨fun b o e n hb hx => k b o (nT e) (u.keep b o e n hb hx), fun b o e n hb hx => ?_, u.free, fun b o e hx => ?_, u.tups, u.frzs, u.tbls⟩
  · obtain ⟨sl, e1⟩ := u.slot b o e n hb hx
    exact ⟨sl, k b _ (nT e) e1⟩
  · obtain ⟨o1, e1⟩ := u.there b o e hx
    exact ⟨o1, k b o1 (nT e) e1⟩
/-- a thing that was not there ahead is tracked from now on -/
theorem Un.track {fs : List Addr} {a : Addr} {o : HO} (u : Un fs [] H H' h h1) (ha : h.get? a = none) (hn : H' a = none) : Un fs [] H (upd H' a o) h h1 := by
  have na : ∀ {b o}, h.get? b = some o → b ≠ a := fun e z => by
    rw [z, ha] at e
    cases e
  refine ⟨u.keep, u.slot, fun b ob e n hx => ?_, u.there, fun b xs q => ?_, fun b ob x q => ?_, fun b ps q => ?_⟩
  · rw [upd_ne (na e)]
    exact u.free b ob e n hx
  · have z := u.tups b xs q
    rw [upd_ne (ne_of_none z hn)]
    exact z
  · have z := u.frzs b ob x q
    rw [upd_ne (ne_of_none z hn)]
    exact z
  · obtain ⟨m, z⟩ := u.tbls b ps q
    exact ⟨m, by rw [upd_ne (ne_of_none z hn)]; exact z⟩
theorem HOk.track {a : Addr} {o : HO} (ok : HOk P w H' h1) (hn : H' a = none) (new : ObjOk P w (upd H' a o) h1 a o) : HOk P w (upd H' a o) h1 := fun b u e => by
  by_cases hb : b = a
  · subst hb
    rw [upd_same] at e
    cases e
    exact new
  · rw [upd_ne hb] at e
    exact (ok b u e).stay (fun _ _ _ q => q) (fun c q => by rw [upd_ne (ne_of_none q hn)]; exact q) fun c xs q => by rw [upd_ne (ne_of_none q hn)]; exact q
end

/-! ### the exception as a thing of the abstract heap -/
/-- made, without a dict -/
def Ex0 (e C : Addr) : HO := .ext fun h => ∃ vs sl, h.get? e = some { cls := .ref C, dict := none, data := .fields vs, slots := sl } ∧ vs[1]? = some .none
/-- .. its dict at dx -/
def ExF (e C dx : Addr) : HO := .ext fun h => ∃ vs sl, h.get? e = some { cls := .ref C, dict := some dx, data := .fields vs, slots := sl } ∧ vs[1]? = some .none
def del (H : Hp) (a : Addr) : Hp := fun b => if b = a then none else H b
theorem del_same {H : Hp} {a : Addr} : del H a a = none := by
  unfold del
  rw [if_pos rfl]
theorem del_ne {H : Hp} {a b : Addr} (h : b ≠ a) : del H a b = H b := by
  unfold del
  rw [if_neg h]
section
variable {X : Cx} {pins : List (Addr × Obj)} {σ : St} {H : Hp} {s : Shared} {h' : Heap}
theorem Inv.laid0 {a : Addr} {o : HO} {t' : Nat} (I : Inv X pins σ H s) (k : ∀ b u, s.heap.get? b = some u → h'.get? b = some u) (hp : s.heap.get? a = none) (hn : H a = none) (new : ObjOk X.prog X.w (upd H a o) h' a o) :
    Inv X pins σ (upd H a o) { s with heap := h', toks := t' } := by
  refine I.un ?_ ?_
  · exact Un.track (Un.kept k) hp hn
  · exact HOk.track (I.hok.kept k) hn new
/-- it flies: it is tracked no more -/
theorem HOk.untrack {P : Program} {w : World} {h : Heap} {a : Addr} {φ : Heap → Prop} (ok : HOk P w H h) (ha : H a = some (.ext φ)) : HOk P w (del H a) h := fun b u e => by
  have hb : b ≠ a := fun z => by
    rw [z, del_same] at e
    cases e
  rw [del_ne hb] at e
  refine (ok b u e).stay (fun _ _ _ q => q) (fun c q => ?_) fun c xs q => ?_
  · rw [del_ne (ne_of q ha (by intro z; cases z))]
    exact q
  · rw [del_ne (ne_of q ha (by intro z; cases z))]
    exact q
theorem Inv.untrack {a : Addr} {φ : Heap → Prop} (I : Inv X pins σ H s) (ha : H a = some (.ext φ)) : Inv X pins σ (del H a) s := by
  have ne : ∀ {b u}, H b = some u → u ≠ .ext φ → b ≠ a := fun q d => ne_of q ha d
  obtain ⟨hp, g, d, t, os⟩ := s
  refine I.un (t' := t) (h' := hp) ⟨fun _ _ q _ _ _ => q, fun _ o q _ _ _ => ⟨o.slots, q⟩, fun b o q n _ => ?_, fun _ o q _ => ⟨o, q⟩, fun b xs q => ?_, fun b o u q => ?_, fun b ps q => ⟨#[], ?_⟩⟩ (I.hok.untrack ha)
  · by_cases z : b = a
    · rw [z, del_same]
    · rw [del_ne z]
      exact n
  · rw [del_ne (ne q (by intro z; cases z))]
    exact q
  · rw [del_ne (ne q (by intro z; cases z))]
    exact q
  · rw [del_ne (ne q (by intro z; cases z)), q]
    simp
end

/-! ### a def whose exceptions leave it -/
section
variable {P : Program} {w : World} {K : PySem.W.Frag} {mg : Str → Option Value} {base : Heap} {N : List Str} {qual : Str} {scope : Scope} {f : Addr} {cd : Value} {A : Around} {outer : List Env} {s0 : Shared} {H0 : Hp} {E : XK}
theorem new_of {X : Cx} {pins : List (Addr × Obj)} {σ : St} {H : Hp} {s : Shared} (I : Inv X pins σ H s) (hx : X.ex = []) {a : Addr} (h : s.heap.get? a = none) : X.s_0.heap.get? a = none := by
  cases q : X.s_0.heap.get? a with
  | none => rfl
  | some o =>
    obtain ⟨o', e⟩ := I.base.there a o q (by rw [hx]; simp)
    rw [h] at e
    cases e
/-- raised here: it leaves -/
theorem raise_up {pins : List (Addr × Obj)} {σ : St} {H : Hp} {s : Shared} {ea C dx : Addr} {fs : List (Str × V)}
    (I : Inv (cxOf (CXE P w) P w K mg base N qual scope f cd A outer s0 H0 E) pins σ H s) (he : H ea = some (ExF ea C dx)) (hd : H dx = some (.xd fs)) (hn : s0.heap.get? ea = none) (hE : E (.ref C) (some dx) (del H ea)) :
    (cxOf (CXE P w) P w K mg base N qual scope f cd A outer s0 H0 E).xe (.ref ea) s := by
  obtain ⟨⟨vs, sl, h1, h2⟩, _⟩ := I.hok ea _ he
  have J := I.untrack he
  refine XB.leave_first (base := base) J.ok.frames J.stack rfl ⟨vs, sl, h1, h2⟩ fun h' T F nT N => ?_
  have nT0 : s.heap.get? T = none := Heap.get?_none_of_le nT
  refine ⟨ea, C, dx, T, del H ea, rfl, J.os, J.bare, ?_, ?_, F, hn, new_of J rfl nT0, del_same, J.hok.fresh nT, ⟨fs, ?_⟩, hE⟩
  · exact Un.noted J.base N rfl (Heap.get?_none_of_le J.ok.above) hn (fun T z => by cases z)
  · exact HOk.noted J.hok N J.stkFree del_same (fun T z => by cases z)
  · rw [del_ne (ne_of hd he (by intro z; cases z))]
    exact hd
/-- a callee's goes on to the caller -/
theorem pass_up : Passes (CXE P w) (cxOf (CXE P w) P w K mg base N qual scope f cd A outer s0 H0 E) E := by
  intro pins σ H s e s' I x
  obtain ⟨ea, C, dx, T, H', rfl, os, bare, un, hok, F, n1, n2, f1, f2, xd, hE⟩ := x
  have J := I.call' os un hok bare (fun b z => absurd z (by simp))
  refine XB.leave_next (base := base) J.ok.frames J.stack rfl F fun h' T' F' nT N => ?_
  have nT0 : s'.heap.get? T' = none := Heap.get?_none_of_le nT
  refine ⟨ea, C, dx, T', H', rfl, J.os, J.bare, ?_, ?_, F', new_of I rfl n1, new_of J rfl nT0, f1, J.hok.fresh nT, xd, hE⟩
  · exact Un.noted J.base N rfl (Heap.get?_none_of_le J.ok.above) (new_of I rfl n1) (fun T0 z => by cases z; exact new_of I rfl n2)
  · exact HOk.noted J.hok N J.stkFree f1 (fun T0 z => by cases z; exact f2)
/-- loops let it through -/
theorem pass_own : PassesOwn (model P w) (cxOf (CXE P w) P w K mg base N qual scope f cd A outer s0 H0 E).A (cxOf (CXE P w) P w K mg base N qual scope f cd A outer s0 H0 E).env (cxOf (CXE P w) P w K mg base N qual scope f cd A outer s0 H0 E).xe :=
  PassesOwn.leaving
end
section
variable {P : Program} {w : World} {K : PySem.W.Frag} {mg : Str → Option Value} {base : Heap}
/-- THE RULE for a def that may raise -/
theorem Fun.okE {x qual : Str} {st : Stmt} {f : Addr} {fd : FuncData} {N ps : List Str} {k : Nat} {sp : Sp} (F : Fun K x qual st f fd) (S : FnScope N ps (defScope st)) (len : ∀ vs H Q E, sp vs H Q E → vs.length = ps.length)
    (hbody : ∀ (cdv : Value) (A : Around) (outer : List Env) (s : Shared) (H : Hp) (vs : List V) (Q : VK) (E : XK), Room k (A.deeper (envOfC qual (defScope st) s.heap.objs.size f cdv)) → sp vs H Q E →
      ∃ t, PSs (cxOf (CXE P w) P w K mg base N qual (defScope st) f cdv A outer s H E) (defBody st) t ∧ t { nx := fun _ H' => Q .non H', rt := Q } (start N vs) H) : FnOk P w K mg base (CXE P w) (k + 1) f fd ps sp := by
  obtain ⟨oc, od, kV, doc, pm, an, cdv, ct, osl, rfl, lk, hcd⟩ := F.ex
  exact fn_of lk hcd S len fun A outer s H vs Q E hr hsp => hbody cdv A outer s H vs Q E hr hsp
end

/-! ### what of the text the class must have -/
def exIn (K : PySem.W.Frag) (C fI : Addr) (ns : List Str) : Bool := match K.lookup C with
  | some ⟨.type "type", _, .cls cd, sl⟩ => (match cd.mro, sl.toList with
    | .ref C' :: bm, [_, _, _, _, some (.builtin n), _] => C' == C && n == "ValueError.__new__" && !cd.hasDel && cd.hasDict && bm == XB.bmV && PySem.W.nsOkIn K cd.ns && PySem.W.nsIn K cd.ns "__init__" == some (some (.ref fI)) &&
      PySem.W.nsIn K cd.ns "__setattr__" == some none && PySem.W.nsIn K cd.ns "__getattribute__" == some none && PySem.W.nsIn K cd.ns "__getattr__" == some none && ns.all fun x => PySem.W.nsIn K cd.ns x == some none
    | _, _ => false)
  | _ => false
theorem ns_is {K : PySem.W.Frag} {h : Heap} {N : Addr} {mN : Str → Option Value} {n : Str} {v : Value} (X : K.In h) (G : h.Ns N mN) (e : PySem.W.nsIn K N n = some (some v)) : mN n = some v := by
  obtain ⟨o, es, ep, ho, hd, _, hf⟩ := G
  unfold PySem.W.nsIn at e
  split at e
  · rename_i c d es' n' sl q
    have z := X _ _ q
    rw [ho] at z
    cases z
    cases hd
    split at e
    · rename_i en he
      cases e
      rw [← hf]
      unfold nsFind findBy
      rw [← Array.find?_toList, he]
      rfl
    · split at e <;> cases e
  · cases e
theorem exIn_cls {K : PySem.W.Frag} {C fI : Addr} {ns : List Str} (q : exIn K C fI ns = true) {h : Heap} (X : K.In h) : XB.Cls h C fI ns := by
  unfold exIn at q
  split at q
  · rename_i dd cd sl ho
    split at q
    · rename_i C' bm k0 k1 k2 k3 n k5 hm hs
      simp only [Bool.and_eq_true, beq_iff_eq, Bool.not_eq_true'] at q
      obtain ⟨⟨⟨⟨⟨⟨⟨⟨⟨⟨rfl, rfl⟩, hdel⟩, hdict⟩, hbm⟩, hok⟩, h1⟩, h2⟩, h3⟩, h4⟩, h5⟩ := q
      obtain ⟨nm, bs, mro, nsA, qn, hd, sn, sub, ab, col, dl⟩ := cd
      dsimp only at hm hdel hdict hok h1 h2 h3 h4 h5
      subst hm hdel hdict hbm
      have hsl : sl = #[k0, k1, k2, k3, some (.builtin "ValueError.__new__"), k5] := by
        obtain ⟨l⟩ := sl
        simp only at hs
        rw [hs]
      subst hsl
      have G : h.Ns nsA (h.nsMap nsA) := .of_isNs (PySem.W.isNs_of_in X hok)
      exact ⟨nm, qn, nsA, bs, sn, sub, ab, col, dd, k0, k1, k2, k3, k5, _, X _ _ ho, G, ns_is X G h1, PySem.W.ns_none_of X G h2, PySem.W.ns_none_of X G h3, PySem.W.ns_none_of X G h4, fun x hx => PySem.W.ns_none_of X G (beq_iff_eq.mp (List.all_eq_true.mp h5 x hx))⟩
    · cases q
  · cases q
def fnCls (K : PySem.W.Frag) (f : Addr) : Bool := match K.lookup f with
  | some o => o.cls == .type "function"
  | none => false
theorem fnCls_at {K : PySem.W.Frag} {f : Addr} (q : fnCls K f = true) {h : Heap} (X : K.In h) : ∃ o, h.get? f = some o ∧ o.cls = .type "function" := by
  unfold fnCls at q
  split at q
  · rename_i o ho
    exact ⟨o, X _ _ ho, beq_iff_eq.mp q⟩
  · cases q
structure ExMk (K : PySem.W.Frag) (C fI : Addr) (ns : List Str) : Prop where
  ex : exIn K C fI ns = true
  fn : fnCls K fI = true
  kp : PySem.W.keepIn K (.ref C) = true

theorem ObjOk.there {P : Program} {w : World} {H : Hp} {h : Heap} {a : Addr} {o : HO} (x : ObjOk P w H h a o) : ∃ ob, h.get? a = some ob := by
  cases o with
  | lst xs => obtain ⟨_, _, _, _, e⟩ := x; exact ⟨_, e⟩
  | tup xs => obtain ⟨_, _, _, ob, e, _⟩ := x; exact ⟨ob, e⟩
  | dK kvs => obtain ⟨_, _, _, _, o, _, _, e, _⟩ := x; exact ⟨o, e⟩
  | dT kvs => obtain ⟨_, _, _, _, o, _, _, e, _⟩ := x; exact ⟨o, e⟩
  | set S n => obtain ⟨o, _, _, _, e, _⟩ := x; exact ⟨o, e⟩
  | ins C dx fs => obtain ⟨_, _, _, e, _⟩ := x; exact ⟨_, e⟩
  | own y => exact x
  | xd fs => obtain ⟨_, ⟨o, _, _, e, _⟩, _⟩ := x; exact ⟨o, e⟩
  | rng lo hi => obtain ⟨_, _, _, e⟩ := x; exact ⟨_, e⟩
  | frz ob u => obtain ⟨e, _⟩ := x; exact ⟨_, e⟩
  | tbl ps => exact ⟨_, (show h.get? a = some _ from x)⟩
  | met f y => exact ⟨_, (show h.get? a = some _ from x)⟩
  | ext φ => obtain ⟨_, e, _⟩ := x; exact e
theorem HOk.none_at {P : Program} {w : World} {H : Hp} {h : Heap} (x : HOk P w H h) {a : Addr} (e : h.get? a = none) : H a = none := by
  cases q : H a with
  | none => rfl
  | some o =>
    obtain ⟨ob, z⟩ := (x a o q).there
    rw [e] at z
    cases z
theorem ex0_ok {P : Program} {w : World} {H : Hp} {h : Heap} {e C : Addr} {vs : Array Value} {sl : Array (Option Value)} (a : h.get? e = some { cls := .ref C, dict := none, data := .fields vs, slots := sl }) (b : vs[1]? = some .none) : ObjOk P w H h e (Ex0 e C) :=
  ⟨⟨vs, sl, a, b⟩, ⟨_, a⟩, fun _ _ ⟨vs, sl, a, b⟩ k => ⟨vs, sl, k _ a, b⟩⟩
theorem exF_ok {P : Program} {w : World} {H : Hp} {h : Heap} {e C dx : Addr} {vs : Array Value} {sl : Array (Option Value)} (a : h.get? e = some { cls := .ref C, dict := some dx, data := .fields vs, slots := sl }) (b : vs[1]? = some .none) : ObjOk P w H h e (ExF e C dx) :=
  ⟨⟨vs, sl, a, b⟩, ⟨_, a⟩, fun _ _ ⟨vs, sl, a, b⟩ k => ⟨vs, sl, k _ a, b⟩⟩
/-! ### self.name = value, in the exception's __init__, as its first attribute -/
def sX0 (K : PySem.W.Frag) (ta tv : TE) (name : Str) : TS := fun D σ H => tv σ H fun y H1 => ta σ H1 fun x H2 => ∃ e C fI ns, x = .ref e ∧ H2 e = some (Ex0 e C) ∧ exIn K C fI ns = true ∧ name ∈ ns ∧ typeLookup (.type "ValueError") name = pure none ∧
  ∀ dx, H2 dx = none → dx ≠ e → D.nx σ (upd (upd H2 dx (.xd [(name, y)])) e (ExF e C dx))
section
variable {X : Cx} {o e value : Expr} {name : Str} {pos pos' : Pos} {ta tv : TE}
theorem ps_x0 (ha : PE X o ta) (hv : PE X value tv) (hs : swapsWith value (some (.Attribute o name pos')) pos.line X.env = pure false) : PS X (.Assign [.Attribute o name pos'] value pos) (sX0 X.K ta tv name) := by
  intro pins s σ H D I h
  refine plainObj_wpAny_Assign_Attribute (thn (hv pins s σ H _ I h) fun u s1 ⟨y, H1, I1, ry, q⟩ => thn (ha pins s1 σ H1 _ I1 q) fun ov s2 ⟨x, H2, I2, rx, e, C, fI, ns, ex, he, hx, hna, hB, q2⟩ => ?_) hs
  subst ex
  obtain rfl : ov = Value.ref e := rx
  obtain ⟨⟨vs, sl, g1, g2⟩, _⟩ := I2.hok e _ he
  obtain ⟨hp, g, d, t, os⟩ := s2
  refine XB.set_attr0 (exIn_cls hx I2.kIn) hna hB g1 fun h' tk' a1 a2 a3 => ?_
  have hdx : H2 hp.objs.size = none := I2.hok.fresh (Nat.le_refl _)
  have nde : hp.objs.size ≠ e := Nat.ne_of_gt (Heap.lt_size g1)
  refine ⟨σ, _, ?_, q2 hp.objs.size hdx nde⟩
  have ne : ∀ {b u}, H2 b = some u → u ≠ Ex0 e C → b ≠ e := fun q d => ne_of q he d
  have nd : ∀ {b u}, H2 b = some u → b ≠ hp.objs.size := fun q => ne_of_none q hdx
  have nn : ∀ {b}, H2 b = none → b ≠ e := fun q z => by
    rw [z, he] at q
    cases q
  refine I2.un (h' := h') (t' := tk') ⟨fun b o q n _ _ => a3 b o (nn n) q, fun b o q n _ _ => ⟨o.slots, a3 b o (nn n) q⟩, fun b o q n _ => ?_, fun b o q _ => ?_, fun b xs q => ?_, fun b ob u q => ?_, fun b ps q => ⟨#[], ?_⟩⟩ fun b u q => ?_
  · rw [upd_ne (nn n), upd_ne (Nat.ne_of_lt (Heap.lt_size q))]
    exact n
  · by_cases z : b = e
    · rw [z]
      exact ⟨_, a1⟩
    · exact ⟨o, a3 b o z q⟩
  · rw [upd_ne (ne q (by intro z; cases z)), upd_ne (nd q)]
    exact q
  · rw [upd_ne (ne q (by intro z; cases z)), upd_ne (nd q)]
    exact q
  · rw [upd_ne (ne q (by intro z; cases z)), upd_ne (nd q), q]
    simp
  · by_cases be : b = e
    · subst be
      rw [upd_same] at q
      cases q
      exact exF_ok a1 g2
    · rw [upd_ne be] at q
      by_cases bd : b = hp.objs.size
      · subst bd
        rw [upd_same] at q
        cases q
        refine ⟨_, a2, fun f => ?_⟩
        by_cases z : f = name
        · subst z
          rw [if_pos rfl]
          show RelO (List.lookup f [(f, y)]) (some u)
          simp [List.lookup]
          exact ry
        · rw [if_neg z]
          have zb : (f == name) = false := by simpa using z
          show RelO (List.lookup f [(name, y)]) none
          simp [List.lookup, zb]
          trivial
      · rw [upd_ne bd] at q
        refine (I2.hok b u q).stay (fun c v hc r => a3 c v ?_ r) (fun c r => ?_) fun c xs r => ?_
        · rcases hc with z | z
          · rw [z]
            exact be
          · exact ne z (by intro z; cases z)
        · rw [upd_ne (ne r (by intro z; cases z)), upd_ne (nd r)]
          exact r
        · rw [upd_ne (ne r (by intro z; cases z)), upd_ne (nd r)]
          exact r
end

/-! ### raise C(..) -/
def tRaise (C : Addr) (spI : Sp) (E : XK) (t : TA) : TS := fun _ σ H => t σ H fun vs H1 => ∀ ea, H1 ea = none → spI (.ref ea :: vs) (upd H1 ea (Ex0 ea C)) (fun v H2 => v = .non ∧ ∃ dx fs, H2 ea = some (ExF ea C dx) ∧ H2 dx = some (.xd fs) ∧ E (.ref C) (some dx) (del H2 ea)) fun _ _ _ => False
section
variable {P : Program} {w : World} {K : PySem.W.Frag} {mg : Str → Option Value} {base : Heap} {N : List Str} {qual : Str} {scope : Scope} {f : Addr} {cd : Value} {A : Around} {outer : List Env} {s0 : Shared} {H0 : Hp} {E : XK}
  {C fI : Addr} {ns psI : List Str} {fdI : FuncData} {spI : Sp} {k : Nat} {x : Str} {np cpos pos : Pos} {e : Expr} {es : List Expr} {t : TA}
theorem ps_raise (M : ExMk K C fI ns) (FI : FnOk P w K mg base CX0 k fI fdI psI spI) (hr : Room (k + 1) (A.deeper (envOfC qual scope s0.heap.objs.size f cd))) (hg : Gl (cxOf (CXE P w) P w K mg base N qual scope f cd A outer s0 H0 E) x) (hm : mg x = some (.ref C)) (hb : Binds K fdI psI [])
    (ha : PA (cxOf (CXE P w) P w K mg base N qual scope f cd A outer s0 H0 E) (e :: es) t) (hdb : (x == ("__debug__" : Str)) = false := by decide)
    (he : starEach (e :: es) (envOfC qual scope s0.heap.objs.size f cd) = (false, eval e (envOfC qual scope s0.heap.objs.size f cd)) :: starEach es (envOfC qual scope s0.heap.objs.size f cd) := by rfl) (hpl : (backTo cpos (starEach es (envOfC qual scope s0.heap.objs.size f cd))).any (·.1) = false := by rfl) (hps : psI.length ≤ 1000 := by decide) :
    PS (cxOf (CXE P w) P w K mg base N qual scope f cd A outer s0 H0 E) (.Raise (some (.Call (.Name x np) (e :: es) [] cpos)) none pos) (tRaise C spI E t) := by
  intro pins s σ H D I h
  rw [arm_exec_Raise]
  refine wpAny_bind (wpAny_standAt ?_)
  refine XB.raise_made (C := C) (fI := fI) (ns := ns) hr.hd ?_
  refine wpAny_bind (wpAny_mono (wpAny_Call_Name_kw (ld_glob I hg hm ?_ hdb)) (fun v s3 h3 => wpAny_bind (wpAny_standAt (wpAny_pure h3))) fun _ _ z => z)
  refine PySem.W.callWith_K (h₀ := base) I.ok.mod.kin M.kp (thn (ha cpos pins s σ H _ I h) fun us s1 ⟨vs, H1, I1, r, q⟩ => ⟨I1.kIn, ?_⟩) he hpl
  obtain ⟨hp, g, d, t, os⟩ := s1
  have X1 := exIn_cls M.ex I1.kIn
  obtain ⟨nm, qn, N', bs, sn, sub, ab, col, dd, k0, k1, k2, k3, k5, mN, hC, hN, h1, _⟩ := id X1.ex
  obtain ⟨oI, hoI, hcI⟩ := fnCls_at M.fn I1.kIn
  have hz : us.length ≤ sizeLine := by
    have e1 : (V.ref hp.objs.size :: vs).length = psI.length := FI.len _ _ _ _ (q hp.objs.size (I1.hok.fresh (Nat.le_refl _)))
    rw [List.length_cons, r.length] at e1
    rw [sizeLine_eq]
    omega
  show wpAny _ _ (call (.ref C) us) _ _ _
  refine wpAny_call_exc_init PySem.F.excBase_ValueError hC hN h1 hoI hcI (fun h' ea hm' => ?_) hz
  have hn : H1 ea = none := I1.hok.none_at hm'.new
  obtain ⟨tt, he1, _⟩ := hm'.there
  have I2 := I1.laid0 (o := Ex0 ea C) (t' := t) hm'.keeps hm'.new hn (ex0_ok he1 rfl)
  have sp := q ea hn
  have r2 : Vals (V.ref ea :: vs) (Value.ref ea :: us) := .cons rfl r
  have hl : (Value.ref ea :: us ++ []).length = psI.length := by
    rw [List.append_nil, ← r2.length]
    exact FI.len _ _ _ _ sp
  have hb2 := hb _ (Value.ref ea :: us) I2.kIn hl
  rw [List.append_nil] at hb2
  refine wpAny_call (codeAny_mono (FI.run _ _ _ _ ⟨Value.ref ea :: us, []⟩ (Value.ref ea :: us) (V.ref ea :: vs) _ _ (hr.make C us []) (I2.env0.make C us []) hb2 r2 sp) fun r s' hq => ?_)
  cases r with
  | error e => exact hq.elim
  | ok fl =>
    cases fl with
    | ret u =>
      obtain ⟨v, H', I3, rv, ev, dx, fs, e1, e2, e3⟩ := I2.after hq
      subst ev
      obtain ⟨⟨vs', sl', g1, g2⟩, _⟩ := I3.hok ea _ e1
      exact ⟨rv, ea, dx, vs', sl', rfl, exIn_cls M.ex I3.kIn, g1, g2, raise_up I3 e1 e2 (new_of I1 rfl hm'.new) e3⟩
    | next => exact False.elim hq
    | brk => exact False.elim hq
    | cont => exact False.elim hq
end
end L2

end

section
set_option Elab.async false
set_option linter.all false
set_option maxRecDepth 100000
set_option maxHeartbeats 1000000
/-! try: .. except C [as n]: .., and calls within an except suite. -/
namespace L2
open PySem PySem.Spec PyProof.Rows

/-! ### within a try's body, within an except suite -/
abbrev Cx.tr (X : Cx) (pl : List (Addr × Obj)) (E' : Value → Shared → Prop) : Cx := { X with xe := E', pn := X.pn ++ pl }
abbrev Cx.su (X : Cx) (e : Addr) (pl : List (Addr × Obj)) : Cx := { X with A := X.A.mark (some (.ref e)), calm := false, xe := fun _ _ => False, pn := X.pn ++ pl }
section
variable {X : Cx} {pins pl : List (Addr × Obj)} {σ : St} {H : Hp} {s : Shared} {E' : Value → Shared → Prop}
theorem Inv.into (I : Inv X pl σ H s) : Inv (X.tr pl E') [] σ H s :=
  ⟨⟨I.ok.mod, I.ok.kind, I.ok.glob, I.ok.blt, I.ok.above, I.ok.inj, I.ok.has, I.ok.cab, I.ok.hd, I.ok.frames, I.ok.stk, I.ok.exf, I.ok.bs, I.ok.bsz, I.ok.noex, I.ok.exfs, I.ok.funs, I.ok.frf⟩, I.os, I.bare, I.base, I.loc, I.cell, I.free, I.freeC,
    fun p hp => I.pin p (by rw [List.append_nil] at hp; exact hp), I.hok, I.len⟩
theorem Inv.outof (I : Inv (X.tr pl E') pins σ H s) : Inv X pl σ H s :=
  ⟨⟨I.ok.mod, I.ok.kind, I.ok.glob, I.ok.blt, I.ok.above, I.ok.inj, I.ok.has, I.ok.cab, I.ok.hd, I.ok.frames, I.ok.stk, I.ok.exf, I.ok.bs, I.ok.bsz, I.ok.noex, I.ok.exfs, I.ok.funs, I.ok.frf⟩, I.os, I.bare, I.base, I.loc, I.cell, I.free, I.freeC,
    fun p hp => I.pin p (List.mem_append_left _ hp), I.hok, I.len⟩
theorem Inv.suite (I : Inv (X.tr pl E') pins σ H s) (e : Addr) : Inv (X.su e pl) pins σ H s :=
  ⟨⟨I.ok.mod, I.ok.kind, I.ok.glob, I.ok.blt, I.ok.above, I.ok.inj, I.ok.has, I.ok.cab, fun z => Bool.noConfusion (show false = true from z), I.ok.frames, I.ok.stk, I.ok.exf, I.ok.bs, I.ok.bsz, I.ok.noex, I.ok.exfs, I.ok.funs, I.ok.frf⟩, I.os, I.bare, I.base, I.loc, I.cell, I.free, I.freeC, I.pin, I.hok, I.len⟩
/-- what the suite leaves, in the def's own context again (the def's own calm is known) -/
theorem Inv.unsuite {e : Addr} (ok : X.Ok) (I : Inv (X.su e pl) pins σ H s) : Inv X pl σ H s :=
  ⟨ok, I.os, I.bare, I.base, I.loc, I.cell, I.free, I.freeC, fun p hp => I.pin p (List.mem_append_left _ hp), I.hok, I.len⟩

end

/-! ### the rules -/
/-- except C -/
def tTry0 (len : Nat) (C : Addr) (tb : XK → TS) (ts : TS) : TS := fun D σ H =>
  tb (fun Cv odx H' => Cv = .ref C ∧ ∀ dx, odx = some dx → ∀ (σ' : St), σ'.length = len → ts D σ' H') D σ H
section
variable {X : Cx} {body suite : List Stmt} {b0 : Stmt} {cn n : Str} {np hpos pos : Pos} {C fI : Addr} {ns : List Str} {i : Nat} {tb : XK → TS} {ts : TS}
theorem ps_try0 (hx : exIn X.K C fI ns = true) (hg : Gl X cn) (hm : X.mg cn = some (.ref C)) (hst : X.stack = X.env :: X.outer) (hfr : X.env.frame = some X.env.locals)
    (hb : ∀ pl E' (E : XK), Passes (CXE X.prog X.w) (X.tr pl E') E → PSs (X.tr pl E') body (tb E)) (hs : ∀ e pl, PSs (X.su e pl) (b0 :: suite) ts) (hdb : (cn == ("__debug__" : Str)) = false := by decide) :
    PS X (.Try body [.ExceptHandler (some (.Name cn np)) none (b0 :: suite) hpos] [] [] pos) (tTry0 X.N.length C tb ts) := by
  intro pl s σ H D I h
  refine wpAny_Try_except ?_
  refine wpAny_mono (hb pl _ _ ?_ [] s σ H D (I.into (E' := fun e s1 => wpAny (model X.prog X.w) X.A (noteFrame e X.env) (fun _ s2 => wpAny (model X.prog X.w) X.A (setFlight e none) (fun _ s3 =>
    wpAny (model X.prog X.w) X.A (handleBy e X.env [.ExceptHandler (some (.Name cn np)) none (b0 :: suite) hpos]) (SP X pl D) X.xe s3) X.xe s2) X.xe s1)) h) (fun f s1 q => ?_) fun e s1 q => q
  · intro pins σ' H1 s1 e s' I1 x
    obtain ⟨ea, C', dx, T, H', rfl, os, bare, un, hok, F, n1, n2, f1, f2, ⟨fs, xd⟩, hE1, hE2⟩ := x
    cases hE1
    have J := I1.call' os un hok bare (fun b z => absurd z (by simp))
    refine XB.note_next (base := X.base) (outer := X.outer) (L := X.env.locals) (hst ▸ J.ok.frames) (hst ▸ J.stack) hfr F fun h1 T1 F1 nT1 N1 => ?_
    have N1' : XB.Noted X.stack s'.heap h1 ea (some T) := by
      rw [hst]
      exact N1
    have un1 := Un.noted2 un N1' n1 (fun T0 z => by cases z; exact n2)
    have hok1 := HOk.noted hok N1' J.stkFree f1 (fun T0 z => by cases z; exact f2)
    have J1 : Inv (X.tr pl _) pins σ' H' { s' with heap := h1 } := I1.call' (s' := { s' with heap := h1 }) os un1 hok1 bare (fun b z => absurd z (by simp))
    have hT1 : H' T1 = none := J.hok.fresh nT1
    have nT2 : s1.heap.get? T1 = none := by
      cases q : s1.heap.get? T1 with
      | none => rfl
      | some o =>
        obtain ⟨o', e'⟩ := un.there T1 o q (by simp)
        rw [Heap.get?_none_of_le nT1] at e'
        cases e'
    refine XB.caught_plain (C := C) (fI := fI) (ns := ns) ?_
    obtain ⟨vs1, sl1, g1, _⟩ := F1.ex
    refine ld_glob (X := X.su ea pl) (J1.suite ea) hg hm ⟨rfl, exIn_cls hx J1.kIn, ⟨_, g1, rfl⟩, ?_⟩ hdb
    refine XB.land_again F1 fun h2 F2 k2 => ?_
    have J2 : Inv (X.tr pl _) pins σ' H' { s' with heap := h2 } := I1.call' (s' := { s' with heap := h2 }) os (Un.turned un1 k2 nT2) (HOk.turned hok1 k2 hT1) bare (fun b z => absurd z (by simp))
    refine wpAny_mono (hs ea pl pins _ _ _ D (J2.suite ea) (hE2 dx rfl σ' J1.len)) (fun f s4 q => ?_) fun _ _ z => z
    cases f with
    | next =>
      obtain ⟨σ4, H4, I4, q4⟩ := q
      exact ⟨σ4, H4, I4.unsuite I.ok, q4⟩
    | brk =>
      obtain ⟨σ4, H4, I4, q4⟩ := q
      exact ⟨σ4, H4, I4.unsuite I.ok, q4⟩
    | cont =>
      obtain ⟨σ4, H4, I4, q4⟩ := q
      exact ⟨σ4, H4, I4.unsuite I.ok, q4⟩
    | ret u =>
      obtain ⟨v, σ4, H4, I4, rv, q4⟩ := q
      exact ⟨v, σ4, H4, I4.unsuite I.ok, rv, q4⟩
  · cases f with
    | next =>
      obtain ⟨σ4, H4, I4, q4⟩ := q
      exact wpAny_execs_nil ⟨σ4, H4, I4.outof, q4⟩
    | brk =>
      obtain ⟨σ4, H4, I4, q4⟩ := q
      exact ⟨σ4, H4, I4.outof, q4⟩
    | cont =>
      obtain ⟨σ4, H4, I4, q4⟩ := q
      exact ⟨σ4, H4, I4.outof, q4⟩
    | ret u =>
      obtain ⟨v, σ4, H4, I4, rv, q4⟩ := q
      exact ⟨v, σ4, H4, I4.outof, rv, q4⟩
end

/-! ### a def that may be called within an except suite: nothing of it asks whether one runs -/
structure RoomC (k : Nat) (A : Around) : Prop where
  dp : A.depth + 3 * k + 5 < recursionLimit
  un : A.units + 16 * k + 200 < cLine
theorem Room.c {k : Nat} {A : Around} (r : Room k A) : RoomC k A := ⟨r.dp, r.un⟩
theorem RoomC.deeper {k : Nat} {A : Around} (r : RoomC (k + 1) A) (env : Env) : RoomC k (A.deeper env) :=
  ⟨by have := r.dp; show A.depth + 1 + 3 * k + 5 < _; omega, by have := r.un; show A.units + 3 + 16 * k + 200 < _; omega⟩
structure FnOkC (P : Program) (w : World) (K : PySem.W.Frag) (mg : Str → Option Value) (base : Heap) (CX : CXT) (k : Nat) (f : Addr) (fd : FuncData) (ps : List Str) (sp : Sp) : Prop where
  len : ∀ vs H Q E, sp vs H Q E → vs.length = ps.length
  run : ∀ (A : Around) (outer : List Env) (s : Shared) (H : Hp) (args : Args) (us : List Value) (vs : List V) (Q : VK) (E : XK), RoomC k A → Env0 P w K mg base A outer s H → BindsTo s fd args (ps.zip us) → Vals vs us → sp vs H Q E →
    codeAny (model P w) A (.call (.ref f) args) (CR CX outer P w H s Q E) s
def cxOfC (CX : CXT) (P : Program) (w : World) (K : PySem.W.Frag) (mg : Str → Option Value) (base : Heap) (N : List Str) (qual : Str) (scope : Scope) (f : Addr) (cd : Value) (A : Around) (outer : List Env) (s : Shared) (H : Hp) (E : XK) : Cx :=
  { cxOf CX P w K mg base N qual scope f cd A outer s H E with calm := false }
theorem fn_ofC {CX : CXT} {P : Program} {w : World} {K : PySem.W.Frag} {mg : Str → Option Value} {base : Heap} {k : Nat} {f : Addr} {name qual : Str} {params : Arguments} {body : List Stmt} {scope : Scope} {dV kV doc pm cdv ct oc : Value} {an od : Option Addr}
    {osl : Array (Option Value)} {N ps : List Str} {sp : Sp} (lk : K.lookup f = some ⟨oc, od, .func (PySem.W.fnOf name qual params body scope dV kV doc pm an cdv ct), osl⟩) (hcd : PySem.W.codeIn K cdv qual = true) (S : FnScope N ps scope)
    (len : ∀ vs H Q E, sp vs H Q E → vs.length = ps.length)
    (hbody : ∀ (A : Around) (outer : List Env) (s : Shared) (H : Hp) (vs : List V) (Q : VK) (E : XK), RoomC k (A.deeper (envOfC qual scope s.heap.objs.size f cdv)) → sp vs H Q E →
      ∃ t, PSs (cxOfC CX P w K mg base N qual scope f cdv A outer s H E) body t ∧ t { nx := fun _ H' => Q .non H', rt := Q } (start N vs) H) :
    FnOkC P w K mg base CX (k + 1) f (PySem.W.fnOf name qual params body scope dV kV doc pm an cdv ct) ps sp := by
  refine ⟨len, fun A outer s H args us vs Q E hr e0 hb r hsp => ?_⟩
  have hl := len _ _ _ _ hsp
  have KX : K.In s.heap := e0.mod.kin.keeps fun b o e => (e0.bs b o e).1
  have lim : s.heap.NoLimit := e0.mod.nolimit.keeps fun b o e => (e0.bs b o e).1
  have hkind : ∀ y ∈ ps.zip us, scope.names.lookup y.1 = some .local ∨ (scope.names.lookup y.1 = some .cell ∧ ((cellsFrom (s.heap.objs.size + 1) scope.names []).lookup y.1).isSome = true) := fun ⟨n, v⟩ hy => by
    rcases S.par n (List.of_mem_zip hy).1 with q | q
    · exact .inl q
    · exact .inr ⟨q, PySem.W.cellsFrom_some _ _ _ (.inl q)⟩
  refine codeAny_call_function (by have := hr.dp; omega) (KX _ _ lk) rfl S.co S.gen rfl (PySem.W.codeRec_of KX hcd) (hb _ _ _ _ ?_)
  refine wpAny_newFunctionEnv_cells S.kind hkind fun env he s1 x => ?_
  subst he
  refine ⟨lim.keeps x.toInCall.keep, codeAny_func ?_⟩
  obtain ⟨t, ht, hq⟩ := hbody A outer s H vs Q E (hr.deeper _) hsp
  have e0' : Env0 P w K mg base { A with handled := none } outer s H := ⟨e0.frames, e0.mod, e0.bs, e0.bsz, e0.funs, e0.frf, e0.hok, e0.bare⟩
  have I0 : Inv (cxOf CX P w K mg base N qual scope f cdv { A with handled := none } outer s H E) [] (start N vs) H s1 := inv_start S rfl e0' hl r x
  have I : Inv (cxOfC CX P w K mg base N qual scope f cdv A outer s H E) [] (start N vs) H s1 :=
    ⟨⟨I0.ok.mod, I0.ok.kind, I0.ok.glob, I0.ok.blt, I0.ok.above, I0.ok.inj, I0.ok.has, I0.ok.cab, fun z => Bool.noConfusion (show false = true from z), Around.frames_deeper e0.frames, I0.ok.stk, I0.ok.exf, I0.ok.bs, I0.ok.bsz, I0.ok.noex, I0.ok.exfs, I0.ok.funs, I0.ok.frf⟩, I0.os, I0.bare, I0.base, I0.loc, I0.cell, I0.free, I0.freeC, I0.pin, I0.hok, I0.len⟩
  refine wpAny_mono (ht [] s1 (start N vs) H _ I hq) (fun fl s' hs => ?_) fun e s' hs => hs
  have fin : ∀ {σ' : St} {H' : Hp} {v : V} {u : Value}, Inv (cxOfC CX P w K mg base N qual scope f cdv A outer s H E) [] σ' H' s' → RelV v u → Q v H' → CE outer P w H s Q u s' :=
    fun {σ' H' v u} J rv q => ⟨v, H', J.os, J.bare, J.base, J.hok, rv, q⟩
  cases fl with
  | ret u =>
    obtain ⟨v, σ', H', J, rv, q⟩ := hs
    exact fin J rv q
  | next =>
    obtain ⟨σ', H', J, q⟩ := hs
    exact fin (v := V.non) (u := Value.none) J rfl q
  | brk =>
    obtain ⟨_, _, _, q⟩ := hs
    exact False.elim q
  | cont =>
    obtain ⟨_, _, _, q⟩ := hs
    exact False.elim q
/-- THE RULE for a def that raises nothing and may be called anywhere -/
theorem Fun.okC {P : Program} {w : World} {K : PySem.W.Frag} {mg : Str → Option Value} {base : Heap} {x qual : Str} {st : Stmt} {f : Addr} {fd : FuncData} {N ps : List Str} {k : Nat} {sp : Sp} (F : Fun K x qual st f fd) (S : FnScope N ps (defScope st)) (len : ∀ vs H Q E, sp vs H Q E → vs.length = ps.length)
    (hbody : ∀ (cdv : Value) (A : Around) (outer : List Env) (s : Shared) (H : Hp) (vs : List V) (Q : VK) (E : XK), RoomC k (A.deeper (envOfC qual (defScope st) s.heap.objs.size f cdv)) → sp vs H Q E →
      ∃ t, PSs (cxOfC CX0 P w K mg base N qual (defScope st) f cdv A outer s H E).nox (defBody st) t ∧ t { nx := fun _ H' => Q .non H', rt := Q } (start N vs) H) : FnOkC P w K mg base CX0 (k + 1) f fd ps sp := by
  obtain ⟨oc, od, kV, doc, pm, an, cdv, ct, osl, rfl, lk, hcd⟩ := F.ex
  refine fn_ofC lk hcd S len fun A outer s H vs Q E hr hsp => ?_
  obtain ⟨t, h, q⟩ := hbody cdv A outer s H vs Q E hr hsp
  exact ⟨t, h.nox, q⟩
section
variable {X : Cx} {CX : CXT} {k : Nat} {f : Addr} {fd : FuncData} {ps : List Str} {sp : Sp} {E : XK} {x : Str} {p pos : Pos} {e : Expr} {es : List Expr} {t : TA}
theorem pe_callC (F : FnOkC X.prog X.w X.K X.mg X.base CX k f fd ps sp) (hr : RoomC k X.A) (hg : Gl X x) (hm : X.mg x = some (.ref f)) (hk : PySem.W.keepIn X.K (.ref f) = true) (hb : Binds X.K fd ps []) (hx : Passes CX X E)
    (ha : PA X (e :: es) t) (hdb : (x == ("__debug__" : Str)) = false := by decide) (he : starEach (e :: es) X.env = (false, eval e X.env) :: starEach es X.env := by rfl) (hpl : (backTo pos (starEach es X.env)).any (·.1) = false := by rfl) :
    PE X (.Call (.Name x p) (e :: es) [] pos) (tCall sp [] E t) := by
  intro pins s σ H Q I h
  refine wpAny_Call_Name_kw (ld_glob I hg hm ?_ hdb)
  refine PySem.W.callWith_K (h₀ := X.base) I.ok.mod.kin hk (thn (ha pos pins s σ H _ I h) fun us s1 ⟨vs, H1, I1, r, q⟩ => ⟨I1.kIn, ?_⟩) he hpl
  have r2 : Vals (vs ++ []) (us ++ []) := by
    rw [List.append_nil, List.append_nil]
    exact r
  have hl : (us ++ []).length = ps.length := by
    rw [← r2.length]
    exact F.len _ _ _ _ q
  refine wpAny_call (codeAny_mono (F.run X.A X.stack s1 H1 ⟨us, []⟩ (us ++ []) (vs ++ []) Q E hr I1.env0 (hb s1 us I1.kIn hl) r2 q) fun r s' hq => ?_)
  cases r with
  | error e => exact hx pins σ H1 s1 e s' I1 hq
  | ok fl =>
    cases fl with
    | ret u => exact I1.after hq
    | next => exact False.elim hq
    | brk => exact False.elim hq
    | cont => exact False.elim hq
end
end L2

end

section
set_option Elab.async false
set_option maxRecDepth 100000
/-! min and max with a default; sorted of a tuple. -/
namespace ML
open PySem

section
variable {prog : Program} {w : World} {A : Around} {E : Value → Shared → Prop} {s : Shared}
/-- a built-in function's tree, keywords too -/
theorem fn_tree {id : String} {b : Builtin} {args : List Value} {kw : List (Str × Value)} {Q : Value → Shared → Prop} (hk : builtinKind id = none) (hp : plainId id = true) (hb : entryFor table id = some b) (ha : argsOk id ⟨args, kw⟩)
    (hc : wpAny (model prog w) A.in1 (b ⟨args, kw⟩) (fun fin s' => match fin with
      | .done f => (match (Except.ok f : Result) with | .ok (.ret v) => Q v s' | .ok _ => False | .error e => E e s')
      | .again c' => c'.quiet = true ∧ codeAny (model prog w) A c' (fun r s' => match r with | .ok (.ret v) => Q v s' | .ok _ => False | .error e => E e s') s') E s) :
    wpAny (model prog w) A (call (.builtin id) args kw) Q E s := by
  refine wpAny_call (codeAny_call_builtin hp hb ?_)
  simp only [checkBuiltinCall, hk]
  cases hq : Manifest.signature? id with
  | none => exact wpAny_pure hc
  | some sg =>
    have z : Bind.checkArgs id sg ⟨args, kw⟩ = pure () := by simpa only [argsOk, hq] using ha
    simp only [z]
    exact wpAny_pure hc
end

theorem args_min_d (a v : Value) : argsOk "min" ⟨[a], [(Str.ofString "default", v)]⟩ := by unfold argsOk; kernel_rfl
section
variable {prog : Program} {w : World} {A : Around} {R : Result → Shared → Prop} {I S : Addr} {fp wr : List Addr} {n : Nat} {P : Nat → Value → Prop} {St : Nat → Heap → Prop} {Good : Heap → Prop} {bt : Nat → Nat → Bool} {kw : List (Str × Value)}
theorem min_name : (toString "min" ++ toString ".loop" : String) = "min.loop" := by decide
/-- the walk behind the first item; Good: what the comparisons ask of the heap -/
theorem min_on (W : Walks prog w A.in1 I fp wr n P St) (hg : ∀ h h', Good h → (∀ b o, b ∉ wr → b ≠ S → h.get? b = some o → h'.get? b = some o) → Good h')
    (hc : ∀ i j vi vj (s : Shared) (Q : Value → Shared → Prop) (E : Value → Shared → Prop), Good s.heap → P i vi → P j vj → Q (.bool (bt i j)) s → wpAny (model prog w) A.in1 (richCompare .Lt vi vj) Q E s) (nS : S ∉ fp) :
    ∀ (k j : Nat) (s : Shared) (vb : Value) (c : Nat), n - (j + 1) = k → j + 1 ≤ n → St (j + 1) s.heap → Good s.heap → P (argBest bt j) vb →
      s.heap.get? S = some { cls := .type "list", dict := none, data := .seq #[vb, vb] c, slots := #[] } →
      (∀ v h' tk, P (argBest bt (n - 1)) v → (∀ b o, b ∉ wr → b ≠ S → s.heap.get? b = some o → h'.get? b = some o) → R (.ok (.ret v)) { s with heap := h', toks := tk }) →
      codeAny (model prog w) A (.builtin "min.loop" ⟨[.ref I, .none, .ref S], kw⟩) R s := by
  have nW : S ∉ wr := fun z => nS (W.sub _ z)
  intro k
  induction k with
  | zero =>
    intro j s vb c ek hj st gd pb eS fin
    have ej : j + 1 = n := by omega
    refine codeAny_builtin F.entry_min_loop ?_
    rw [Around.under_plainId F.plain_min_loop _]
    show wpAny _ A.in1 (seqItems? (.ref S) >>= _) _ _ s
    refine wpAny_bind (wpAny_seqItems eS rfl ?_)
    show wpAny _ A.in1 (tryCatch (pyNext (.ref I)) _ >>= _) _ _ s
    refine wpAny_bind (wpAny_tryCatch (W.done s _ _ (ej ▸ st) fun h1 tk k1 => ?_))
    have eS1 := k1 S _ nW eS
    show wpAny _ A.in1 (updateSeq S (fun _ => #[]) >>= _) _ _ _
    refine wpAny_bind ?_
    refine wpAny_updateSeq eS1 rfl (wpAny_bind (wpAny_letGo (wpAny_pure ?_)))
    refine fin vb _ tk (by rw [← ej]; exact pb) fun b o b1 b2 e => ?_
    rw [Heap.get?_update_other _ _ (Ne.symm b2)]
    exact k1 b o b1 e
  | succ k ih =>
    intro j s vb c ek hj st gd pb eS fin
    have lt : j + 1 < n := by omega
    refine codeAny_builtin F.entry_min_loop ?_
    rw [Around.under_plainId F.plain_min_loop _]
    show wpAny _ A.in1 (seqItems? (.ref S) >>= _) _ _ s
    refine wpAny_bind (wpAny_seqItems eS rfl ?_)
    show wpAny _ A.in1 (tryCatch (pyNext (.ref I)) _ >>= _) _ _ s
    refine wpAny_bind (wpAny_tryCatch (W.item (j + 1) s _ _ lt st fun v h1 tk pv st1 k1 => ?_))
    have eS1 := k1 S _ nW eS
    have gd1 : Good h1 := hg _ _ gd fun b o b1 _ e => k1 b o b1 e
    show wpAny _ A.in1 (tryCatch (holding [v, v] (richCompare .Lt v vb >>= _)) _ >>= _) _ _ _
    refine wpAny_bind (wpAny_tryCatch (wpAny_holding (wpAny_bind (hc (j + 1) (argBest bt j) v vb _ _ _ gd1 pv pb ?_))))
    refine wpAny_bind (wpAny_holding (wpAny_truthy_bool ?_))
    refine wpAny_bind (wpAny_letGo (wpAny_pure ?_))
    cases hb : bt (j + 1) (argBest bt j) with
    | true =>
      simp only [if_true]
      refine wpAny_bind ?_
      refine wpAny_updateSeq eS1 rfl (wpAny_bind (wpAny_letGo ?_))
      rw [min_name]
      have oth : ∀ b o, b ≠ S → h1.get? b = some o → (h1.update S (Obj.mapSeq fun _ => #[v, v])).get? b = some o := fun b o b2 e => by
        rw [Heap.get?_update_other _ _ (Ne.symm b2)]
        exact e
      refine wpAny_pure ⟨plainId_quiet F.plain_min_loop _, ih (j + 1) _ v _ (by omega) lt (W.frame _ _ _ st1 fun b bf o e => oth b o (fun z => nS (z ▸ bf)) e) (hg _ _ gd1 fun b o _ b2 e => oth b o b2 e) ?_ (Heap.get?_update_self _ eS1 rfl) fun v' h2 tk' p' k2 => ?_⟩
      · simp only [argBest, hb, if_true]
        exact pv
      · exact fin v' h2 tk' p' fun b o b1 b2 e => k2 b o b1 b2 (oth b o b2 (k1 b o b1 e))
    | false =>
      simp only [Bool.false_eq_true, if_false]
      refine wpAny_bind (wpAny_letGo ?_)
      rw [min_name]
      refine wpAny_pure ⟨plainId_quiet F.plain_min_loop _, ih (j + 1) _ vb c (by omega) lt st1 gd1 ?_ eS1 fun v' h2 tk' p' k2 => ?_⟩
      · simp only [argBest, hb, Bool.false_eq_true, if_false]
        exact pb
      · exact fin v' h2 tk' p' fun b o b1 b2 e => k2 b o b1 b2 (k1 b o b1 e)
/-- from the start -/
theorem min_from {d : Value} {dn : Str} (W : Walks prog w A.in1 I fp wr n P St) (hg : ∀ h h', Good h → (∀ b o, b ∉ wr → b ≠ S → h.get? b = some o → h'.get? b = some o) → Good h')
    (hc : ∀ i j vi vj (s : Shared) (Q : Value → Shared → Prop) (E : Value → Shared → Prop), Good s.heap → P i vi → P j vj → Q (.bool (bt i j)) s → wpAny (model prog w) A.in1 (richCompare .Lt vi vj) Q E s) (nS : S ∉ fp)
    {s : Shared} {c : Nat} (st : St 0 s.heap) (gd : Good s.heap) (eS : s.heap.get? S = some { cls := .type "list", dict := none, data := .seq #[] c, slots := #[] })
    (no : n = 0 → ∀ h' tk, (∀ b o, b ∉ wr → b ≠ S → s.heap.get? b = some o → h'.get? b = some o) → R (.ok (.ret d)) { s with heap := h', toks := tk })
    (fin : 0 < n → ∀ v h' tk, P (argBest bt (n - 1)) v → (∀ b o, b ∉ wr → b ≠ S → s.heap.get? b = some o → h'.get? b = some o) → R (.ok (.ret v)) { s with heap := h', toks := tk }) :
    codeAny (model prog w) A (.builtin "min.loop" ⟨[.ref I, .none, .ref S], [(dn, d)]⟩) R s := by
  have nW : S ∉ wr := fun z => nS (W.sub _ z)
  refine codeAny_builtin F.entry_min_loop ?_
  rw [Around.under_plainId F.plain_min_loop _]
  show wpAny _ A.in1 (seqItems? (.ref S) >>= _) _ _ s
  refine wpAny_bind (wpAny_seqItems eS rfl ?_)
  show wpAny _ A.in1 (tryCatch (pyNext (.ref I)) _ >>= _) _ _ s
  by_cases h0 : n = 0
  · refine wpAny_bind (wpAny_tryCatch (W.done s _ _ (h0 ▸ st) fun h1 tk k1 => ?_))
    show wpAny _ A.in1 (rule _ >>= _) _ _ _
    wp_walk
    exact no h0 h1 tk fun b o b1 _ e => k1 b o b1 e
  · have lt : 0 < n := by omega
    refine wpAny_bind (wpAny_tryCatch (W.item 0 s _ _ lt st fun v h1 tk pv st1 k1 => ?_))
    have eS1 := k1 S _ nW eS
    have gd1 : Good h1 := hg _ _ gd fun b o b1 _ e => k1 b o b1 e
    show wpAny _ A.in1 (updateSeq S (fun _ => #[v, v]) >>= _) _ _ _
    refine wpAny_bind ?_
    refine wpAny_updateSeq eS1 rfl ?_
    rw [min_name]
    have oth : ∀ b o, b ≠ S → h1.get? b = some o → (h1.update S (Obj.mapSeq fun _ => #[v, v])).get? b = some o := fun b o b2 e => by
      rw [Heap.get?_update_other _ _ (Ne.symm b2)]
      exact e
    refine wpAny_pure ⟨plainId_quiet F.plain_min_loop _, min_on W hg hc nS _ 0 _ v _ rfl lt (W.frame _ _ _ st1 fun b bf o e => oth b o (fun z => nS (z ▸ bf)) e) (hg _ _ gd1 fun b o _ b2 e => oth b o b2 e) pv (Heap.get?_update_self _ eS1 rfl) fun v' h2 tk' p' k2 => ?_⟩
    exact fin lt v' h2 tk' p' fun b o b1 b2 e => k2 b o b1 b2 (oth b o b2 (k1 b o b1 e))
end
section
variable {prog : Program} {w : World} {A : Around} {E : Value → Shared → Prop} {s : Shared} {l : Addr} {its : Array Value}
/-- min(xs, default = d) of a list; the comparisons lean on what stood ahead of the call -/
theorem min_list {bt : Nat → Nat → Bool} {d : Value} {Q : Value → Shared → Prop} (hh : A.handled = none) (hl : s.heap.IsList l its)
    (hc : ∀ i j vi vj (s' : Shared) (Q : Value → Shared → Prop) (E : Value → Shared → Prop), (∀ b o, s.heap.get? b = some o → s'.heap.get? b = some o) → its[i]? = some vi → its[j]? = some vj → Q (.bool (bt i j)) s' → wpAny (model prog w) A.in1 (richCompare .Lt vi vj) Q E s')
    (no : its.size = 0 → ∀ h' tk, (∀ b o, s.heap.get? b = some o → h'.get? b = some o) → Q d { s with heap := h', toks := tk })
    (fin : 0 < its.size → ∀ v h' tk, its[argBest bt (its.size - 1)]? = some v → (∀ b o, s.heap.get? b = some o → h'.get? b = some o) → Q v { s with heap := h', toks := tk }) :
    wpAny (model prog w) A (call (.builtin "min") [.ref l] [(Str.ofString "default", d)]) Q E s := by
  refine fn_tree F.kind_min F.plain_min F.entry_min (args_min_d _ _) ?_
  show wpAny _ A.in1 (Builtin.Builtins.bindParams "min" ["key", "default"] 0 ⟨[], [(Str.ofString "default", d)]⟩ >>= _) _ _ s
  refine wpAny_bind (wpAny_of_eq (show Builtin.Builtins.bindParams "min" ["key", "default"] 0 ⟨[], [(Str.ofString "default", d)]⟩ = pure [none, some d] from rfl) ?_)
  refine wpAny_bind (wpAny_pure ?_)
  have ll : l < s.heap.objs.size := by
    obtain ⟨_, e, _⟩ := hl
    exact Heap.lt_size e
  refine wpAny_bind (wpAny_pyIter_list hl ?_)
  refine wpAny_bind (wpAny_newObj_type ?_)
  rw [min_name]
  have hz : (s.heap.push { cls := .type "list_iterator", data := .fields #[.ref l, .int 0 0] }).objs.size = s.heap.objs.size + 1 := Heap.size_push ..
  have W := Walks.list (prog := prog) (w := w) (A := A.in1) hh s.heap.objs.size l (Nat.ne_of_lt ll) its
  have old : ∀ b o, s.heap.get? b = some o → b ∉ [s.heap.objs.size] ∧ b ≠ (s.heap.push { cls := .type "list_iterator", data := .fields #[.ref l, .int 0 0] }).objs.size := fun b o e => by
    have q := Heap.lt_size e
    refine ⟨fun z => ?_, fun z => ?_⟩
    · rw [List.mem_singleton.mp z] at q
      exact Nat.lt_irrefl _ q
    · rw [z, hz] at q
      exact Nat.lt_irrefl _ (Nat.lt_of_succ_lt q)
  have up : ∀ b o, s.heap.get? b = some o → ((s.heap.push { cls := .type "list_iterator", data := .fields #[.ref l, .int 0 0] }).push { cls := .type "list", data := .seq ([] : List Value).toArray }).get? b = some o := fun b o e =>
    Heap.get?_push_of_some _ (Heap.get?_push_of_some _ e)
  refine wpAny_pure ⟨plainId_quiet F.plain_min_loop _, min_from (Good := fun h => ∀ b o, s.heap.get? b = some o → h.get? b = some o) (bt := bt) (d := d) W
    (fun h h' g k b o e => k b o (old b o e).1 (old b o e).2 (g b o e)) (fun i j vi vj s' Q E g p1 p2 q => hc i j vi vj s' Q E g p1 p2 q) ?_ ⟨⟨_, Heap.get?_push_of_some _ (Heap.get?_push_size _ rfl), rfl, rfl⟩, (hl.push _).push _⟩ up (Heap.get?_push_size _ rfl)
    (fun h0 h' tk k => no h0 h' tk fun b o e => k b o (old b o e).1 (old b o e).2 (up b o e)) fun h0 v h' tk p k => fin h0 v h' tk p fun b o e => k b o (old b o e).1 (old b o e).2 (up b o e)⟩
  intro z
  rw [hz] at z
  rcases List.mem_cons.mp z with z | z
  · exact Nat.succ_ne_self _ z
  · rw [← List.mem_singleton.mp z] at ll
    exact Nat.lt_irrefl _ (Nat.lt_of_succ_lt ll)
end

section
variable {prog : Program} {w : World} {A : Around} {R : Result → Shared → Prop} {I S : Addr} {fp wr : List Addr} {n : Nat} {P : Nat → Value → Prop} {St : Nat → Heap → Prop} {Good : Heap → Prop} {bt : Nat → Nat → Bool} {kw : List (Str × Value)}
end
section
variable {prog : Program} {w : World} {A : Around} {E : Value → Shared → Prop} {s : Shared} {l : Addr} {its : Array Value}
end

/-! ### sorted of a tuple -/
section
open PyProof.Rows
variable {prog : Program} {w : World} {A : Around} {E : Value → Shared → Prop} {s : Shared}
theorem sorted_tup {t : Addr} {vs : List Value} {ns : List Int} {Q : Value → Shared → Prop} (ht : s.heap.IsTuple t vs.toArray) (hI : IntsAre vs ns) (h64 : vs.length < 64)
    (h : ∀ (h' : Heap) (p : Addr) (out : List Value) (ns' : List Int) (n : Nat), (∀ b o, s.heap.get? b = some o → h'.get? b = some o) → s.heap.get? p = none → h'.get? p = some { cls := .type "list", data := .seq out.toArray n } →
      IntsAre out ns' → ns'.Perm ns → ns'.Pairwise (· ≤ ·) → Q (.ref p) { s with heap := h' }) :
    wpAny (model prog w) A (call (.builtin "sorted") [.ref t]) Q E s := by
  obtain ⟨o, ho, hc, n, hd⟩ := ht
  refine Calls.call_function_entry kind_sorted plain_sorted entry_sorted (args_sorted1 _) ?_
  unfold Builtin.«sorted»
  refine wpAny_bind (m := checkCount "sorted" 1 1 _) (wpAny_pure ?_)
  refine wpAny_bind (wpAny_collect_seq t (.inr rfl) ho hc hd (fun h1 k1 => ?_) (by rw [List.size_toArray, sizeLine_eq]; omega))
  refine wpAny_bind (wpAny_newList ?_)
  have hoL : (h1.push (seqObj "list" vs.toArray 0)).get? h1.objs.size = some (seqObj "list" vs.toArray 0) := Heap.get?_push_size _ rfl
  show wpAny _ _ _ _ _ { s with heap := h1.push (seqObj "list" vs.toArray 0) }
  refine wpAny_bind (wpAny_holding (wpAny_call_entry slot_list_sort ⟨_, hoL, rfl⟩ entry_list_sort (list_sort_tree hoL hI h64 fun out ns' a1 a2 a3 => ⟨_, rfl, ?_⟩) (args_list_sort _)))
  refine wpAny_pure ⟨_, rfl, ?_⟩
  obtain ⟨ep, he⟩ := sortedHeap_at (out := out) hoL
  refine h _ h1.objs.size out.toList ns' ep (fun b o' e => ?_) ?_ (by simpa using he) a1 a2 a3
  · have l1 := Heap.lt_size (k1 b o' e)
    rw [sortedHeap_old (Nat.ne_of_lt l1) (by rw [size_push']; exact Nat.lt_succ_of_lt l1)]
    exact Heap.get?_push_of_some _ (k1 b o' e)
  · cases q : s.heap.get? h1.objs.size with
    | none => rfl
    | some o' => exact absurd (Heap.lt_size (k1 _ o' q)) (Nat.lt_irrefl _)
end
end ML

end

section
set_option Elab.async false
set_option linter.all false
set_option maxRecDepth 100000
set_option maxHeartbeats 1000000
/-! min and max with a default, sorted of a tuple, over the hand layer. -/
namespace L2
open PySem PySem.Spec PyProof.Rows

/-- a call of a built-in with keywords ks -/
def CallRK (X : Cx) (f : Value) (ks : List Str) (r : List V → List V → Hp → VK → Prop) : Prop :=
  ∀ (pins : List (Addr × Obj)) (s : Shared) (σ : St) (H : Hp) (vs : List V) (us : List Value) (zs : List V) (ws : List Value) (Q : VK), Inv X pins σ H s → Vals vs us → Vals zs ws → r vs zs H Q →
    wpAny (model X.prog X.w) X.A (call f us (ks.zip ws)) (EP X pins σ Q) X.xe s
def tCBK (r : List V → List V → Hp → VK → Prop) (t tk : TA) : TE := fun σ H Q => t σ H fun vs H1 => tk σ H1 fun zs H2 => r vs zs H2 Q
section
variable {X : Cx} {id : String} {ks : List Str} {r : List V → List V → Hp → VK → Prop} {x : Str} {p pos : Pos} {e : Expr} {es : List Expr} {kws : List Keyword} {t tk : TA}
theorem pe_callBK (hc : CallRK X (.builtin id) ks r) (hg : Gl X x) (hm : X.mg x = none) (hv : bootBuiltins x = some (.builtin id)) (ha : PA X (e :: es) t) (hkw : PK X kws tk)
    (hks : (backToKw pos (keywordEach kws X.env)).filterMap (·.1) = ks := by rfl) (hn : x ≠ "__name__" := by decide) (hdb : (x == ("__debug__" : Str)) = false := by decide)
    (he : backTo pos (starEach (e :: es) X.env) = (false, eval e X.env) :: backTo pos (starEach es X.env) := by rfl) (hpl : (backTo pos (starEach (e :: es) X.env)).any (·.1) = false := by rfl)
    (hall : (backToKw pos (keywordEach kws X.env)).all (·.1.isSome) = true := by rfl) (hno : (backToKw pos (keywordEach kws X.env)).any (·.1.isNone) = false := by rfl) :
    PE X (.Call (.Name x p) (e :: es) kws pos) (tCBK r t tk) := by
  intro pins s σ H Q I h
  refine wpAny_Call_Name_kw (ld_blt I hg hm hv ?_ hn hdb)
  refine PyProof.Rows.callWith_kw (thn (ha pos pins s σ H _ I h) fun us s1 ⟨vs, H1, I1, r1, q1⟩ => ?_) he hpl hall hno
  refine thn (hkw pos pins s1 σ H1 _ I1 q1) fun ws s2 ⟨zs, H2, I2, rz, q2⟩ => ?_
  rw [hks]
  exact hc pins s2 σ H2 vs us zs ws Q I2 r1 rz q2
end
section
variable {X : Cx}
end

/-! ### the least of a list of tuples of ints -/
theorem lex_trans : ∀ (a b c : List Int), HT.lexLt a b = true → HT.lexLt b c = true → HT.lexLt a c = true
  | [], [], _, h, _ => by cases h
  | [], _ :: _, [], _, h => by cases h
  | [], _ :: _, _ :: _, _, _ => rfl
  | _ :: _, [], _, h, _ => by cases h
  | _ :: _, _ :: _, [], _, h => by cases h
  | x :: a, y :: b, z :: c, h1, h2 => by
    rw [HT.lexLt_cons] at h1 h2 ⊢
    by_cases e1 : x = y
    · rw [if_pos e1] at h1
      by_cases e2 : y = z
      · rw [if_pos e2] at h2
        rw [if_pos (e1.trans e2)]
        exact lex_trans a b c h1 h2
      · rw [if_neg e2] at h2
        rw [if_neg (by omega), e1]
        exact h2
    · rw [if_neg e1, decide_eq_true_eq] at h1
      by_cases e2 : y = z
      · rw [if_neg (by omega), decide_eq_true_eq]
        omega
      · rw [if_neg e2, decide_eq_true_eq] at h2
        rw [if_neg (by omega), decide_eq_true_eq]
        omega
theorem lex_irrefl : ∀ a : List Int, HT.lexLt a a = false
  | [] => rfl
  | x :: a => by
    rw [HT.lexLt_cons, if_pos rfl]
    exact lex_irrefl a
theorem best_lex (row : Nat → List Int) : ∀ k, argBest (fun i j => HT.lexLt (row i) (row j)) k ≤ k ∧ ∀ j, j ≤ k → HT.lexLt (row j) (row (argBest (fun i j => HT.lexLt (row i) (row j)) k)) = false
  | 0 => ⟨Nat.le_refl _, fun j hj => by
    have z : j = 0 := by omega
    subst z
    exact lex_irrefl _⟩
  | k + 1 => by
    obtain ⟨h1, h2⟩ := best_lex row k
    simp only [argBest]
    by_cases hc : HT.lexLt (row (k + 1)) (row (argBest (fun i j => HT.lexLt (row i) (row j)) k)) = true
    · rw [if_pos hc]
      refine ⟨Nat.le_refl _, fun j hj => ?_⟩
      by_cases e : j = k + 1
      · rw [e]
        exact lex_irrefl _
      · cases hq : HT.lexLt (row j) (row (k + 1)) with
        | false => rfl
        | true =>
          have z := h2 j (by omega)
          rw [lex_trans _ _ _ hq hc] at z
          cases z
    · rw [if_neg hc]
      refine ⟨by omega, fun j hj => ?_⟩
      by_cases e : j = k + 1
      · rw [e]
        exact Bool.not_eq_true _ ▸ hc
      · exact h2 j (by omega)
def rMinDT (K : PySem.W.Frag) : List V → List V → Hp → VK → Prop := fun vs zs H Q => ∃ (a : Addr) (ts : List Addr) (rows : List (List Int)) (d : V), vs = [.ref a] ∧ zs = [d] ∧ SqL K H a (ts.map V.ref) ∧ ts.length = rows.length ∧
  (∀ (i : Nat) t row, ts[i]? = some t → rows[i]? = some row → SqT K H t (row.map V.int)) ∧ (rows = [] → Q d H) ∧ ∀ (i : Nat) t row, ts[i]? = some t → rows[i]? = some row → (∀ row', row' ∈ rows → HT.lexLt row' row = false) → Q (.ref t) H
theorem Vals.refs : ∀ {ts : List Addr} {us : List Value}, Vals (ts.map V.ref) us → us = ts.map Value.ref
  | [], us, h => by
    rw [List.map_nil] at h
    cases h
    rfl
  | t :: ts, us, h => by
    rw [List.map_cons] at h
    cases h with
    | cons r q =>
      cases r
      rw [Vals.refs q, List.map_cons]
section
variable {X : Cx}
theorem cr_minDT (hc : X.calm = true) (hu : X.A.units + 1 < cLine) : CallRK X (.builtin "min") ["default"] (rMinDT X.K) := by
  intro pins s σ H vs us zs ws Q I r rz h
  obtain ⟨a, ts, rows, d, rfl, rfl, hs, hlen, hts, q0, q1⟩ := h
  obtain ⟨its, rv, hl, _⟩ := I.list hs
  rw [Vals.ref1 r]
  obtain ⟨u, rfl, ru⟩ := Vals.one rz
  have hv := Vals.refs rv
  subst hv
  have hz : (ts.map Value.ref).toArray.size = rows.length := by
    rw [List.size_toArray, List.length_map, hlen]
  have at_ : ∀ {i : Nat} {v : Value}, (ts.map Value.ref).toArray[i]? = some v → ∃ t row, ts[i]? = some t ∧ rows[i]? = some row ∧ v = .ref t ∧ rows.getD i [] = row := fun {i v} e => by
    rw [List.getElem?_toArray, List.getElem?_map] at e
    cases et : ts[i]? with
    | none =>
      rw [et] at e
      cases e
    | some t =>
      rw [et] at e
      have li : i < rows.length := by
        rw [← hlen]
        exact (List.getElem?_eq_some_iff.mp et).1
      refine ⟨t, rows[i], rfl, List.getElem?_eq_getElem li, (Option.some.inj e).symm, ?_⟩
      rw [List.getD_eq_getElem?_getD, List.getElem?_eq_getElem li]
      rfl
  show wpAny _ _ (call (.builtin "min") [.ref a] [(Str.ofString "default", u)]) _ _ _
  refine ML.min_list (bt := fun i j => HT.lexLt (rows.getD i []) (rows.getD j [])) (I.ok.hd hc) hl.isList (fun i j vi vj s' Q' E' k p1 p2 q => ?_) (fun z h' tk k => ⟨d, H, I.kept k, ru, q0 ?_⟩) (fun z v h' tk p k => ?_)
  · obtain ⟨t1, r1, e1, e2, rfl, e3⟩ := at_ p1
    obtain ⟨t2, r2, f1, f2, rfl, f3⟩ := at_ p2
    obtain ⟨is1, v1, g1, _⟩ := I.tuple (hts i t1 r1 e1 e2)
    obtain ⟨is2, v2, g2, _⟩ := I.tuple (hts j t2 r2 f1 f2)
    have i1 : IntsAre is1.toArray.toList r1 := intsAre_of v1
    have i2 : IntsAre is2.toArray.toList r2 := intsAre_of v2
    obtain ⟨o1, a1, c1⟩ := g1
    obtain ⟨o2, a2, c2⟩ := g2
    rw [e3, f3] at q
    exact HT.lt_tupInts (s := s') ⟨o1, k _ _ a1, c1⟩ ⟨o2, k _ _ a2, c2⟩ i1 i2 hu q
  · exact List.length_eq_zero_iff.mp (hz ▸ z)
  · obtain ⟨t, row, e1, e2, rfl, e3⟩ := at_ p
    obtain ⟨b1, b2⟩ := best_lex (fun i => rows.getD i []) ((ts.map Value.ref).toArray.size - 1)
    refine ⟨.ref t, H, I.kept k, rfl, q1 _ t row e1 e2 fun row' hr => ?_⟩
    obtain ⟨j, hj, e⟩ := List.mem_iff_getElem.mp hr
    have z := b2 j (by omega)
    rw [e3, List.getD_eq_getElem?_getD, List.getElem?_eq_getElem hj] at z
    rw [← e]
    exact z
/-- sorted(t) of a tuple of ints -/
def rSortedT (K : PySem.W.Frag) : List V → Hp → VK → Prop := fun vs H Q => ∃ (a : Addr) (ns : List Int), vs = [V.ref a] ∧ SqT K H a (ns.map V.int) ∧ ns.length < 64 ∧
  ∀ (ns' : List Int) (p : Addr), ns'.Perm ns → ns'.Pairwise (· ≤ ·) → H p = none → Q (.ref p) (upd H p (.lst (ns'.map V.int)))
theorem cr_sortedT : CallR X (.builtin "sorted") (rSortedT X.K) := by
  intro pins s σ H vs us Q I r h
  obtain ⟨a, ns, rfl, hs, h64, q⟩ := h
  obtain ⟨its, rv, ht, _⟩ := I.tuple hs
  rw [Vals.ref1 r]
  have hi := rv.ints
  refine ML.sorted_tup ht hi (by rw [hi.length]; exact h64) fun h' p out ns' n k np hp i1 pm pw => ?_
  have hn : H p = none := I.hok.none_at np
  refine ⟨.ref p, upd H p (.lst (ns'.map V.int)), I.laid0 (t' := s.toks) k np hn ⟨?_, out, n, vals_of_ints i1, hp⟩, rfl, q ns' p pm pw hn⟩
  rw [List.length_map, pm.length_eq]
  exact small64 h64
end
/-! ### the rules that speak of the text's objects, where K is named (within a block or a suite) -/
section
variable {X : Cx} {K : PySem.W.Frag}
theorem ix_tupK (hK : X.K = K) : IxR X (rIxT K) := by
  subst hK
  exact ix_tup
theorem ix_listK (hK : X.K = K) : IxR X (rIxL K) := by
  subst hK
  exact ix_list
end
end L2

end

section
set_option Elab.async false
set_option linter.all false
set_option maxRecDepth 100000
set_option maxHeartbeats 1000000
/-! More rules: any over ints, the greatest of three, list(range(n)), a second attribute of an exception, tuples of the module. -/
namespace L2
open PySem PySem.Spec PyProof.Rows

/-! ### any over ints -/
section
variable {X : Cx}
/-! ### the greatest of three -/
theorem call_max3 (hc : X.calm = true) : CallR X (.builtin "max") (fun xs H Q => ∃ i j k, xs = [.int i, .int j, .int k] ∧ Q (.int (max i (max j k))) H) := by
  intro pins s σ H xs us Q I r h
  obtain ⟨i, j, k, rfl, q⟩ := h
  cases r with
  | cons r1 rr =>
    cases rr with
    | cons r2 rr =>
      cases rr with
      | cons r3 rr =>
        cases rr
        obtain ⟨t1, rfl⟩ := r1
        obtain ⟨t2, rfl⟩ := r2
        obtain ⟨t3, rfl⟩ := r3
        refine max_three_ints (I.ok.hd hc) fun h' tk kk => ⟨_, H, I.kept kk, ?_, q⟩
        by_cases h1 : j > i
        · rw [if_pos h1]
          by_cases h2 : k > j
          · rw [if_pos h2]
            exact ⟨t3, by rw [show max i (max j k) = k by omega]⟩
          · rw [if_neg h2]
            exact ⟨t2, by rw [show max i (max j k) = j by omega]⟩
        · rw [if_neg h1]
          by_cases h2 : k > i
          · rw [if_pos h2]
            exact ⟨t3, by rw [show max i (max j k) = k by omega]⟩
          · rw [if_neg h2]
            exact ⟨t1, by rw [show max i (max j k) = i by omega]⟩
/-! ### range(n), list(range(n)) -/
end
/-! ### a second attribute of an exception -/
section
variable {X : Cx} {o e value : Expr} {name : Str} {pos pos' : Pos} {ta tv : TE}
end
/-! ### tuples of the module -/
def intsIn : List Value → List Int → Bool
  | .int i _ :: r, n :: ns => i == n && intsIn r ns
  | [], [] => true
  | _, _ => false
theorem intsIn_vals : ∀ {its : List Value} {ns : List Int}, intsIn its ns = true → Vals (ns.map V.int) its
  | [], [], _ => .nil
  | v :: r, n :: ns, h => by
    unfold intsIn at h
    split at h
    · rename_i e1 e2
      cases e1
      cases e2
      rw [Bool.and_eq_true, beq_iff_eq] at h
      exact .cons ⟨_, by rw [h.1]⟩ (intsIn_vals h.2)
    · rename_i e1 _
      cases e1
    · cases h
  | [], _ :: _, h => by cases h
  | _ :: _, [], h => by
    unfold intsIn at h
    split at h
    · rename_i e1
      cases e1
    · rename_i e1 _
      cases e1
    · cases h
def tupIn (K : PySem.W.Frag) (a : Addr) (ns : List Int) : Bool := match K.lookup a with
  | some ⟨.type "tuple", _, .seq its _, _⟩ => decide (its.size ≤ 1000) && intsIn its.toList ns
  | _ => false
theorem tupIn_at {K : PySem.W.Frag} {a : Addr} {ns : List Int} (h : tupIn K a ns = true) (H : Hp) : SqT K H a (ns.map V.int) := by
  unfold tupIn at h
  split at h
  · rename_i d its n sl e
    rw [Bool.and_eq_true, decide_eq_true_eq] at h
    exact .inr ⟨_, its, n, e, rfl, rfl, Nat.le_trans h.1 (by decide), intsIn_vals h.2⟩
  · cases h
def rowsIn (K : PySem.W.Frag) : List Value → List (List Int) → Bool
  | .ref b :: r, n :: ns => tupIn K b n && rowsIn K r ns
  | [], [] => true
  | _, _ => false
def tupsIn (K : PySem.W.Frag) (a : Addr) (nss : List (List Int)) : Bool := match K.lookup a with
  | some ⟨.type "tuple", _, .seq its _, _⟩ => decide (its.size ≤ 1000) && rowsIn K its.toList nss
  | _ => false
theorem rowsIn_vals {K : PySem.W.Frag} : ∀ {its : List Value} {nss : List (List Int)}, rowsIn K its nss = true → ∃ as : List Addr, Vals (as.map V.ref) its ∧ as.length = nss.length ∧ ∀ (i : Nat) b ns, as[i]? = some b → nss[i]? = some ns → tupIn K b ns = true
  | [], [], _ => ⟨[], .nil, rfl, fun i b ns e => by simp at e⟩
  | v :: r, n :: nss, h => by
    unfold rowsIn at h
    split at h
    · rename_i e1 e2
      cases e1
      cases e2
      rw [Bool.and_eq_true] at h
      obtain ⟨as, h1, h2, h3⟩ := rowsIn_vals h.2
      refine ⟨_ :: as, .cons rfl h1, by rw [List.length_cons, List.length_cons, h2], fun i b ns e1 e2 => ?_⟩
      cases i with
      | zero =>
        simp at e1 e2
        rw [← e1, ← e2]
        exact h.1
      | succ i => exact h3 i b ns (by simpa using e1) (by simpa using e2)
    · rename_i e1 _
      cases e1
    · cases h
  | [], _ :: _, h => by cases h
  | _ :: _, [], h => by
    unfold rowsIn at h
    split at h
    · rename_i e1
      cases e1
    · rename_i e1 _
      cases e1
    · cases h
/-- a global that is a tuple of ints -/
def TupG (K : PySem.W.Frag) (mg : Str → Option Value) (x : Str) (ns : List Int) : Prop := ∃ a, mg x = some (.ref a) ∧ ∀ H : Hp, SqT K H a (ns.map V.int)
/-- .. of tuples of ints -/
def TupsG (K : PySem.W.Frag) (mg : Str → Option Value) (x : Str) (nss : List (List Int)) : Prop :=
  ∃ (a : Addr) (as : List Addr), mg x = some (.ref a) ∧ (∀ H : Hp, SqT K H a (as.map V.ref)) ∧ as.length = nss.length ∧ ∀ (i : Nat) b ns, as[i]? = some b → nss[i]? = some ns → ∀ H : Hp, SqT K H b (ns.map V.int)
theorem tupG_of {K : PySem.W.Frag} {mg : Str → Option Value} {x : Str} {ns : List Int} {a : Addr} (e : mg x = some (.ref a)) (h : tupIn K a ns = true) : TupG K mg x ns := ⟨a, e, tupIn_at h⟩
theorem tupsG_of {K : PySem.W.Frag} {mg : Str → Option Value} {x : Str} {nss : List (List Int)} {a : Addr} (e : mg x = some (.ref a)) (h : tupsIn K a nss = true) : TupsG K mg x nss := by
  unfold tupsIn at h
  split at h
  · rename_i d its n sl e1
    rw [Bool.and_eq_true, decide_eq_true_eq] at h
    obtain ⟨as, h1, h2, h3⟩ := rowsIn_vals h.2
    exact ⟨a, as, e, fun H => .inr ⟨_, its, n, e1, rfl, rfl, Nat.le_trans h.1 (by decide), h1⟩, h2, fun i b ns q1 q2 H => tupIn_at (h3 i b ns q1 q2) H⟩
  · cases h
/-! ### ints in tuples compared -/
/-! ### loops: enumerate of a list, zip of two lists, the signs of a text -/
/-! ### list(d.values()) -/
section
variable {X : Cx}
end
end L2

end

section
set_option Elab.async false
/-! The mathematics of reading a mesh's text: the program's reading against the specification's. Plain Lean. -/
namespace MM
open Bead

/-- some number up to g that is not taken is v, or has v's digits in front (as deep as j digits more) -/
def beg (g : Nat) (tk : List Nat) : Nat → Nat → Bool
  | 0, v => decide (v ≤ g) && !tk.contains v
  | j + 1, v => decide (v ≤ g) && (!tk.contains v || (decide (0 < v) && (List.range 10).any fun d => beg g tk j (10 * v + d)))

/-- the program's begins_number -/
def begins (g : Nat) (tk : List Nat) (v : Nat) : Bool := beg g tk 5 v
theorem begins_le {g : Nat} {tk : List Nat} {v : Nat} (h : begins g tk v = true) : v ≤ g := by
  unfold begins beg at h
  simp only [Bool.and_eq_true, decide_eq_true_eq] at h
  exact h.1

theorem begins_free (g v : Nat) : begins g [] v = decide (v ≤ g) := by
  unfold begins beg
  simp

/-- the specification's test of a triangle's corner, as far as it has been read -/
theorem begins_other (n : Nat) (tk : List Nat) (hn : 0 < n) (hn2 : n ≤ 64) (v : Nat) :
    begins (n - 1) tk v = ((List.range n).any fun (w : Nat) => !tk.contains w && (w == v || (v != 0 && w / 10 == v))) := by
  have big : ∀ j u, 10 ≤ u → beg (n - 1) tk j u = (decide (u ≤ n - 1) && !tk.contains u) := by
    intro j u hu
    cases j with
    | zero => rfl
    | succ j =>
      have e : beg (n - 1) tk (j + 1) u = (decide (u ≤ n - 1) && (!tk.contains u || (decide (0 < u) && (List.range 10).any fun d => beg (n - 1) tk j (10 * u + d)))) := rfl
      rw [e]
      have q : ((List.range 10).any fun d => beg (n - 1) tk j (10 * u + d)) = false := by
        rw [List.any_eq_false]
        intro d _
        have : ¬ 10 * u + d ≤ n - 1 := by omega
        cases j <;> simp [beg, this]
      rw [q]
      simp
  unfold begins
  have e : beg (n - 1) tk 5 v = (decide (v ≤ n - 1) && (!tk.contains v || (decide (0 < v) && (List.range 10).any fun d => beg (n - 1) tk 4 (10 * v + d)))) := rfl
  rw [e, Bool.eq_iff_iff]
  simp only [Bool.and_eq_true, Bool.or_eq_true, decide_eq_true_eq, List.any_eq_true, List.mem_range, Bool.not_eq_true', bne_iff_ne, beq_iff_eq]
  constructor
  · rintro ⟨h1, h2 | ⟨h2, d, hd, h3⟩⟩
    · exact ⟨v, by omega, h2, .inl rfl⟩
    · rw [big 4 _ (by omega)] at h3
      simp only [Bool.and_eq_true, decide_eq_true_eq, Bool.not_eq_true'] at h3
      exact ⟨10 * v + d, by omega, h3.2, .inr ⟨by omega, by omega⟩⟩
  · rintro ⟨w, hw, ht, rfl | ⟨h0, hd⟩⟩
    · exact ⟨by omega, .inl ht⟩
    · refine ⟨by omega, .inr ⟨by omega, w - 10 * v, by omega, ?_⟩⟩
      rw [big 4 _ (by omega)]
      have : 10 * v + (w - 10 * v) = w := by omega
      rw [this, ht]
      simp
      omega

/-- a number read by the program's tests -/
def numIn (g : Nat) (tk : List Nat) (p : Nat) (b : Bytes) : In Nat := numberIn (begins g tk) (fun v => decide (v ≤ g) && !tk.contains v) p b
theorem upTo_num (p : Nat) (b : Bytes) : upToIn FAR p b = numIn 65535 [] p b := by
  unfold upToIn numIn
  congr 1
  · funext v
    rw [begins_free]
    rfl
  · funext v
    simp only [FAR, List.contains_nil, Bool.not_false, Bool.and_true]
    rfl
theorem other_num (n : Nat) (tk : List Nat) (hn : 0 < n) (hn2 : n ≤ 64) (p : Nat) (b : Bytes) : otherIn n tk p b = numIn (n - 1) tk p b := by
  unfold otherIn numIn
  congr 1
  · funext v
    rw [begins_other n tk hn hn2]
  · funext v
    have : decide (v < n) = decide (v ≤ n - 1) := by
      rw [decide_eq_decide]
      omega
    rw [this]

/-! ### a number, figure by figure -/
/-- the value read so far v, the place q behind it, f figures more at most -/
def fin (g : Nat) (tk : List Nat) (q f v : Nat) (b : Bytes) : In Nat :=
  let x := figures (begins g tk) f v b
  if (decide (x.1 ≤ g) && !tk.contains x.1) = true then .ok (x.1, q + x.2.1, x.2.2) else .error (q + x.2.1)
theorem num_nil {g : Nat} {tk : List Nat} {p : Nat} : numIn g tk p [] = .error p := rfl
theorem num_bad {g : Nat} {tk : List Nat} {p : Nat} {c : UInt8} {r : Bytes} (h : ¬ (isDigit c = true ∧ begins g tk (c.toNat - 48) = true)) : numIn g tk p (c :: r) = .error p := by
  unfold numIn numberIn
  show (if _ then _ else _) = _
  rw [if_neg h]
theorem num_first {g : Nat} {tk : List Nat} {p : Nat} {c : UInt8} {r : Bytes} (h1 : isDigit c = true) (h2 : begins g tk (c.toNat - 48) = true) :
    numIn g tk p (c :: r) = fin g tk (p + 1) 8 (c.toNat - 48) r := by
  unfold numIn numberIn
  show (if _ then _ else _) = _
  rw [if_pos (And.intro h1 h2)]
  rfl
theorem fin_step {g : Nat} {tk : List Nat} {q f v : Nat} {c : UInt8} {r : Bytes} (h1 : isDigit c = true) (hv : v ≠ 0) (h2 : begins g tk (10 * v + (c.toNat - 48)) = true) (hf : g < v * 10 ^ f) :
    ∃ f', f = f' + 1 ∧ fin g tk q f v (c :: r) = fin g tk (q + 1) f' (10 * v + (c.toNat - 48)) r := by
  cases f with
  | zero =>
    have := begins_le h2
    omega
  | succ f' =>
    refine ⟨f', rfl, ?_⟩
    have e : figures (begins g tk) (f' + 1) v (c :: r) = (let x := figures (begins g tk) f' (10 * v + (c.toNat - 48)) r; (x.1, x.2.1 + 1, x.2.2)) := by
      show (if _ then _ else _) = _
      rw [if_pos ⟨h1, hv, h2⟩]
    unfold fin
    rw [e]
    simp only [Nat.add_assoc, Nat.add_comm 1]
theorem fin_stop {g : Nat} {tk : List Nat} {q f v : Nat} {b : Bytes} (h : ∀ c r, b = c :: r → ¬ (isDigit c = true ∧ v ≠ 0 ∧ begins g tk (10 * v + (c.toNat - 48)) = true)) :
    fin g tk q f v b = if (decide (v ≤ g) && !tk.contains v) = true then .ok (v, q, b) else .error q := by
  have e : figures (begins g tk) f v b = (v, 0, b) := by
    cases f with
    | zero => cases b <;> rfl
    | succ f =>
      cases b with
      | nil => rfl
      | cons c r =>
        show (if _ then _ else _) = _
        rw [if_neg (h c r rfl)]
  unfold fin
  rw [e]
  rfl

/-! ### a line, number by number -/
/-- k numbers more, each behind a blank, then the line's end; ns are read -/
def numsIn (num : List Nat → Nat → Bytes → In Nat) : Nat → List Nat → Nat → Bytes → In (List Nat)
  | 0, ns, p, b => match byteIn 10 p b with
    | .error e => .error e
    | .ok (_, q, r) => .ok (ns, q, r)
  | k + 1, ns, p, b => match byteIn 32 p b with
    | .error e => .error e
    | .ok (_, q, r) => match num ns q r with
      | .error e => .error e
      | .ok (v, q', r') => numsIn num k (ns ++ [v]) q' r'
def cornerOf : List Nat → Corner
  | [x, y, z] => ⟨x, y, z⟩
  | _ => ⟨0, 0, 0⟩
def faceOf : List Nat → Face
  | [x, y, z] => ⟨x, y, z⟩
  | _ => ⟨0, 0, 0⟩
def mapIn {α β : Type} (f : α → β) : In α → In β
  | .error e => .error e
  | .ok (a, q, r) => .ok (f a, q, r)
theorem corner_nums (p : Nat) (b : Bytes) : cornerIn p b = mapIn cornerOf (numsIn (fun _ => numIn 65535 []) 3 [] p b) := by
  unfold cornerIn
  simp only [upTo_num, numsIn, bind, Except.bind, pure, Except.pure]
  cases byteIn 32 p b with
  | error e => rfl
  | ok x =>
    obtain ⟨_, p1, b1⟩ := x
    dsimp only
    cases numIn 65535 [] p1 b1 with
    | error e => rfl
    | ok x =>
      obtain ⟨v1, p2, b2⟩ := x
      dsimp only
      cases byteIn 32 p2 b2 with
      | error e => rfl
      | ok x =>
        obtain ⟨_, p3, b3⟩ := x
        dsimp only
        cases numIn 65535 [] p3 b3 with
        | error e => rfl
        | ok x =>
          obtain ⟨v2, p4, b4⟩ := x
          dsimp only
          cases byteIn 32 p4 b4 with
          | error e => rfl
          | ok x =>
            obtain ⟨_, p5, b5⟩ := x
            dsimp only
            cases numIn 65535 [] p5 b5 with
            | error e => rfl
            | ok x =>
              obtain ⟨v3, p6, b6⟩ := x
              dsimp only
              cases byteIn 10 p6 b6 with
              | error e => rfl
              | ok x => rfl
theorem face_nums (n : Nat) (hn : 0 < n) (hn2 : n ≤ 64) (p : Nat) (b : Bytes) : faceIn n p b = mapIn faceOf (numsIn (fun ns => numIn (n - 1) ns) 3 [] p b) := by
  unfold faceIn
  simp only [other_num n _ hn hn2, numsIn, bind, Except.bind, pure, Except.pure]
  cases byteIn 32 p b with
  | error e => rfl
  | ok x =>
    obtain ⟨_, p1, b1⟩ := x
    dsimp only
    cases numIn (n - 1) [] p1 b1 with
    | error e => rfl
    | ok x =>
      obtain ⟨v1, p2, b2⟩ := x
      dsimp only
      cases byteIn 32 p2 b2 with
      | error e => rfl
      | ok x =>
        obtain ⟨_, p3, b3⟩ := x
        dsimp only
        have e1 : ([] ++ [v1] : List Nat) = [v1] := rfl
        rw [e1]
        cases numIn (n - 1) [v1] p3 b3 with
        | error e => rfl
        | ok x =>
          obtain ⟨v2, p4, b4⟩ := x
          dsimp only
          cases byteIn 32 p4 b4 with
          | error e => rfl
          | ok x =>
            obtain ⟨_, p5, b5⟩ := x
            dsimp only
            have e2 : ([v1] ++ [v2] : List Nat) = [v1, v2] := rfl
            rw [e2]
            cases numIn (n - 1) [v1, v2] p5 b5 with
            | error e => rfl
            | ok x =>
              obtain ⟨v3, p6, b6⟩ := x
              dsimp only
              cases byteIn 10 p6 b6 with
              | error e => rfl
              | ok x => rfl

/-! ### bytes by places -/
theorem drop_at {b : Bytes} {p : Nat} {c : UInt8} (h : b[p]? = some c) : b.drop p = c :: b.drop (p + 1) := by
  obtain ⟨h1, h2⟩ := List.getElem?_eq_some_iff.mp h
  rw [List.drop_eq_getElem_cons h1, h2]
theorem drop_end {b : Bytes} {p : Nat} (h : b[p]? = none) : b.drop p = [] := List.drop_eq_nil_of_le (List.getElem?_eq_none_iff.mp h)
theorem byte_ok {b : Bytes} {p : Nat} {c : UInt8} (h : b[p]? = some c) : byteIn c p (b.drop p) = .ok ((), p + 1, b.drop (p + 1)) := by
  rw [drop_at h]
  show (if c = c then (Except.ok ((), p + 1, b.drop (p + 1)) : In Unit) else .error p) = _
  rw [if_pos rfl]
theorem byte_bad {b : Bytes} {p : Nat} {c : UInt8} (h : b[p]? ≠ some c) : byteIn c p (b.drop p) = .error p := by
  cases e : b[p]? with
  | none =>
    rw [drop_end e]
    rfl
  | some d =>
    rw [drop_at e]
    show (if d = c then (Except.ok ((), p + 1, b.drop (p + 1)) : In Unit) else .error p) = _
    rw [if_neg fun q => h (by rw [e, q])]

/-! ### the lines of a mesh -/
theorem mesh_end {f p : Nat} {cs : List Corner} {fs : List Face} : meshFrom (f + 1) p cs fs [] = .ok ⟨cs.reverse, fs.reverse⟩ := rfl
theorem mesh_v_err {f p e : Nat} {cs : List Corner} {r : Bytes} (h : cs.length < 64) (hc : cornerIn (p + 1) r = .error e) : meshFrom (f + 1) p cs [] (118 :: r) = .error e := by
  have c : (118 : UInt8) = 118 ∧ ([] : List Face) = [] ∧ cs.length < CORNERS := ⟨rfl, rfl, h⟩
  show (if (118 : UInt8) = 118 ∧ ([] : List Face) = [] ∧ cs.length < CORNERS then _ else _) = _
  rw [if_pos c, hc]
theorem mesh_v_ok {f p q : Nat} {cs : List Corner} {r s : Bytes} {v : Corner} (h : cs.length < 64) (hc : cornerIn (p + 1) r = .ok (v, q, s)) : meshFrom (f + 1) p cs [] (118 :: r) = meshFrom f q (v :: cs) [] s := by
  have c : (118 : UInt8) = 118 ∧ ([] : List Face) = [] ∧ cs.length < CORNERS := ⟨rfl, rfl, h⟩
  show (if (118 : UInt8) = 118 ∧ ([] : List Face) = [] ∧ cs.length < CORNERS then _ else _) = _
  rw [if_pos c, hc]
theorem mesh_t_err {f p e : Nat} {cs : List Corner} {fs : List Face} {c : UInt8} {r : Bytes} (e0 : c = 116) (h : 3 ≤ cs.length) (h2 : fs.length < 128) (hc : faceIn cs.length (p + 1) r = .error e) : meshFrom (f + 1) p cs fs (c :: r) = .error e := by
  have c1 : ¬ (c = 118 ∧ fs = [] ∧ cs.length < CORNERS) := fun q => absurd (e0.symm.trans q.1) (by decide)
  have c2 : c = 116 ∧ 3 ≤ cs.length ∧ fs.length < FACES := ⟨e0, h, h2⟩
  show (if c = 118 ∧ fs = [] ∧ cs.length < CORNERS then _ else if c = 116 ∧ 3 ≤ cs.length ∧ fs.length < FACES then _ else _) = _
  rw [if_neg c1, if_pos c2, hc]
theorem mesh_t_ok {f p q : Nat} {cs : List Corner} {fs : List Face} {c : UInt8} {r s : Bytes} {v : Face} (e0 : c = 116) (h : 3 ≤ cs.length) (h2 : fs.length < 128) (hc : faceIn cs.length (p + 1) r = .ok (v, q, s)) : meshFrom (f + 1) p cs fs (c :: r) = meshFrom f q cs (v :: fs) s := by
  have c1 : ¬ (c = 118 ∧ fs = [] ∧ cs.length < CORNERS) := fun q => absurd (e0.symm.trans q.1) (by decide)
  have c2 : c = 116 ∧ 3 ≤ cs.length ∧ fs.length < FACES := ⟨e0, h, h2⟩
  show (if c = 118 ∧ fs = [] ∧ cs.length < CORNERS then _ else if c = 116 ∧ 3 ≤ cs.length ∧ fs.length < FACES then _ else _) = _
  rw [if_neg c1, if_pos c2, hc]
theorem mesh_bad {f p : Nat} {cs : List Corner} {fs : List Face} {c : UInt8} {r : Bytes} (h1 : ¬ (c = 118 ∧ fs = [] ∧ cs.length < 64)) (h2 : ¬ (c = 116 ∧ 3 ≤ cs.length ∧ fs.length < 128)) :
    meshFrom (f + 1) p cs fs (c :: r) = .error p := by
  have c1 : ¬ (c = 118 ∧ fs = [] ∧ cs.length < CORNERS) := h1
  have c2 : ¬ (c = 116 ∧ 3 ≤ cs.length ∧ fs.length < FACES) := h2
  show (if c = 118 ∧ fs = [] ∧ cs.length < CORNERS then _ else if c = 116 ∧ 3 ≤ cs.length ∧ fs.length < FACES then _ else _) = _
  rw [if_neg c1, if_neg c2]

/-! ### reading goes forward -/
end MM

end

section
set_option Elab.async false
/-! What holds of a mesh that has been read; the first open side by counting. Plain Lean. -/
namespace MM
open Bead

structure CornerOk (v : Corner) : Prop where
  x : v.x ≤ 65535
  y : v.y ≤ 65535
  z : v.z ≤ 65535
structure FaceOk (n : Nat) (f : Face) : Prop where
  a : f.a < n
  b : f.b < n
  c : f.c < n
  ab : f.a ≠ f.b
  ac : f.a ≠ f.c
  bc : f.b ≠ f.c
structure MeshOk (M : Mesh) : Prop where
  cl : M.corners.length ≤ 64
  fl : M.faces.length ≤ 128
  cs : ∀ v ∈ M.corners, CornerOk v
  fs : ∀ f ∈ M.faces, FaceOk M.corners.length f

theorem number_may {goes may : Nat → Bool} {p : Nat} {b : Bytes} {v q : Nat} {r : Bytes} (h : numberIn goes may p b = .ok (v, q, r)) : may v = true := by
  unfold numberIn at h
  split at h
  · cases h
  · split at h
    · dsimp only at h
      split at h
      · rename_i hm
        injection h with h
        injection h with h1 h2
        rw [← h1]
        exact hm
      · cases h
    · cases h
theorem upTo_le {p : Nat} {b : Bytes} {v q : Nat} {r : Bytes} (h : upToIn FAR p b = .ok (v, q, r)) : v ≤ 65535 := by
  have t : decide (v ≤ 65535) = true := number_may h
  exact of_decide_eq_true t
theorem other_ok {n : Nat} {tk : List Nat} {p : Nat} {b : Bytes} {v q : Nat} {r : Bytes} (h : otherIn n tk p b = .ok (v, q, r)) : v < n ∧ v ∉ tk := by
  have := number_may h
  simpa using this
theorem corner_ok {p : Nat} {b : Bytes} {v : Corner} {q : Nat} {r : Bytes} (h : cornerIn p b = .ok (v, q, r)) : CornerOk v := by
  unfold cornerIn at h
  simp only [bind, Except.bind, pure, Except.pure] at h
  cases e1 : byteIn 32 p b with
  | error e => rw [e1] at h; cases h
  | ok x1 =>
    obtain ⟨_, p1, b1⟩ := x1
    rw [e1] at h
    dsimp only at h
    cases e2 : upToIn FAR p1 b1 with
    | error e => rw [e2] at h; cases h
    | ok x2 =>
      obtain ⟨v1, p2, b2⟩ := x2
      rw [e2] at h
      dsimp only at h
      cases e3 : byteIn 32 p2 b2 with
      | error e => rw [e3] at h; cases h
      | ok x3 =>
        obtain ⟨_, p3, b3⟩ := x3
        rw [e3] at h
        dsimp only at h
        cases e4 : upToIn FAR p3 b3 with
        | error e => rw [e4] at h; cases h
        | ok x4 =>
          obtain ⟨v2, p4, b4⟩ := x4
          rw [e4] at h
          dsimp only at h
          cases e5 : byteIn 32 p4 b4 with
          | error e => rw [e5] at h; cases h
          | ok x5 =>
            obtain ⟨_, p5, b5⟩ := x5
            rw [e5] at h
            dsimp only at h
            cases e6 : upToIn FAR p5 b5 with
            | error e => rw [e6] at h; cases h
            | ok x6 =>
              obtain ⟨v3, p6, b6⟩ := x6
              rw [e6] at h
              dsimp only at h
              cases e7 : byteIn 10 p6 b6 with
              | error e => rw [e7] at h; cases h
              | ok x7 =>
                obtain ⟨_, p7, b7⟩ := x7
                rw [e7] at h
                dsimp only at h
                injection h with h
                injection h with h1 h2
                rw [← h1]
                exact ⟨upTo_le e2, upTo_le e4, upTo_le e6⟩
theorem face_ok {n p : Nat} {b : Bytes} {v : Face} {q : Nat} {r : Bytes} (h : faceIn n p b = .ok (v, q, r)) : FaceOk n v := by
  unfold faceIn at h
  simp only [bind, Except.bind, pure, Except.pure] at h
  cases e1 : byteIn 32 p b with
  | error e => rw [e1] at h; cases h
  | ok x1 =>
    obtain ⟨_, p1, b1⟩ := x1
    rw [e1] at h
    dsimp only at h
    cases e2 : otherIn n [] p1 b1 with
    | error e => rw [e2] at h; cases h
    | ok x2 =>
      obtain ⟨v1, p2, b2⟩ := x2
      rw [e2] at h
      dsimp only at h
      cases e3 : byteIn 32 p2 b2 with
      | error e => rw [e3] at h; cases h
      | ok x3 =>
        obtain ⟨_, p3, b3⟩ := x3
        rw [e3] at h
        dsimp only at h
        cases e4 : otherIn n [v1] p3 b3 with
        | error e => rw [e4] at h; cases h
        | ok x4 =>
          obtain ⟨v2, p4, b4⟩ := x4
          rw [e4] at h
          dsimp only at h
          cases e5 : byteIn 32 p4 b4 with
          | error e => rw [e5] at h; cases h
          | ok x5 =>
            obtain ⟨_, p5, b5⟩ := x5
            rw [e5] at h
            dsimp only at h
            cases e6 : otherIn n [v1, v2] p5 b5 with
            | error e => rw [e6] at h; cases h
            | ok x6 =>
              obtain ⟨v3, p6, b6⟩ := x6
              rw [e6] at h
              dsimp only at h
              cases e7 : byteIn 10 p6 b6 with
              | error e => rw [e7] at h; cases h
              | ok x7 =>
                obtain ⟨_, p7, b7⟩ := x7
                rw [e7] at h
                dsimp only at h
                injection h with h
                injection h with h1 h2
                rw [← h1]
                have a1 := other_ok e2
                have a2 := other_ok e4
                have a3 := other_ok e6
                simp only [List.mem_cons, List.not_mem_nil, or_false, not_or] at a2 a3
                exact ⟨a1.1, a2.1, a3.1, fun z => a2.2 z.symm, fun z => a3.2.1 z.symm, fun z => a3.2.2 z.symm⟩
theorem from_ok : ∀ (f p : Nat) (cs : List Corner) (fs : List Face) (b : Bytes) (M : Mesh), meshFrom f p cs fs b = .ok M → cs.length ≤ 64 → fs.length ≤ 128 → (∀ v ∈ cs, CornerOk v) → (∀ x ∈ fs, FaceOk cs.length x) → MeshOk M
  | 0, p, cs, fs, b, M, h, _, _, _, _ => by cases h
  | f + 1, p, cs, fs, [], M, h, h1, h2, h3, h4 => by
    have e : M = ⟨cs.reverse, fs.reverse⟩ := by
      injection h with h
      exact h.symm
    subst e
    refine ⟨by simpa using h1, by simpa using h2, fun v hv => h3 v (by simpa using hv), fun x hx => ?_⟩
    have := h4 x (by simpa using hx)
    simpa using this
  | f + 1, p, cs, fs, c :: r, M, h, h1, h2, h3, h4 => by
    by_cases c1 : c = 118 ∧ fs = [] ∧ cs.length < 64
    · obtain ⟨rfl, rfl, hl⟩ := c1
      cases ev : cornerIn (p + 1) r with
      | error e =>
        rw [mesh_v_err hl ev] at h
        cases h
      | ok x =>
        obtain ⟨v, q, s⟩ := x
        rw [mesh_v_ok hl ev] at h
        refine from_ok f q (v :: cs) [] s M h (by rw [List.length_cons]; omega) (Nat.zero_le _) (fun u hu => ?_) (fun x hx => by cases hx)
        rcases List.mem_cons.mp hu with z | z
        · rw [z]
          exact corner_ok ev
        · exact h3 u z
    · by_cases c2 : c = 116 ∧ 3 ≤ cs.length ∧ fs.length < 128
      · obtain ⟨e0, hl, hf⟩ := c2
        cases ev : faceIn cs.length (p + 1) r with
        | error e =>
          rw [mesh_t_err e0 hl hf ev] at h
          cases h
        | ok x =>
          obtain ⟨v, q, s⟩ := x
          rw [mesh_t_ok e0 hl hf ev] at h
          refine from_ok f q cs (v :: fs) s M h h1 (by rw [List.length_cons]; omega) h3 (fun x hx => ?_)
          rcases List.mem_cons.mp hx with z | z
          · rw [z]
            exact face_ok ev
          · exact h4 x z
      · rw [mesh_bad c1 c2] at h
        cases h
theorem read_ok {B : Bytes} {M : Mesh} (h : readMesh B = .ok M) : MeshOk M :=
  from_ok _ _ _ _ _ _ h (Nat.zero_le _) (Nat.zero_le _) (fun v hv => by cases hv) (fun x hx => by cases hx)

/-! ### least and most -/
/-! ### sides -/
/-- a triangle's sides, the lesser corner in front -/
def pairs (f : Face) : List (Nat × Nat) :=
  let lo := min f.a (min f.b f.c)
  let hi := max f.a (max f.b f.c)
  let mid := f.a + f.b + f.c - lo - hi
  [(lo, mid), (lo, hi), (mid, hi)]
theorem pairs_count {n : Nat} {f : Face} (h : FaceOk n f) {i j : Nat} (hij : i < j) : (pairs f).count (i, j) = if f.has i && f.has j then 1 else 0 := by
  obtain ⟨_, _, _, h1, h2, h3⟩ := h
  obtain ⟨a, b, c⟩ := f
  simp only at h1 h2 h3
  unfold pairs Face.has
  simp only [List.count_cons, List.count_nil, beq_iff_eq, Prod.mk.injEq, Bool.and_eq_true, Bool.or_eq_true]
  by_cases e : ((a = i ∨ b = i ∨ c = i) ∧ (a = j ∨ b = j ∨ c = j))
  · rw [if_pos e]
    obtain ⟨e1, e2⟩ := e
    rcases e1 with rfl | rfl | rfl <;> rcases e2 with rfl | rfl | rfl <;> first | omega | (repeat' split) <;> omega
  · rw [if_neg e]
    repeat' split
    all_goals omega
/-- how often (i, j) is a side -/
def cnt (fs : List Face) (i j : Nat) : Nat := ((fs.map pairs).flatten).count (i, j)
theorem cnt_side {M : Mesh} (h : MeshOk M) {i j : Nat} (hij : i < j) : cnt M.faces i j = M.sideOf i j := by
  have key : ∀ (l : List Face), (∀ f ∈ l, FaceOk M.corners.length f) → cnt l i j = (l.filter fun (f : Face) => f.has i && f.has j).length := by
    intro l hl
    induction l with
    | nil => rfl
    | cons f l ih =>
      have e : cnt (f :: l) i j = (pairs f).count (i, j) + cnt l i j := by
        unfold cnt
        rw [List.map_cons, List.flatten_cons, List.count_append]
      rw [e, pairs_count (hl f List.mem_cons_self) hij, ih fun x hx => hl x (List.mem_cons_of_mem _ hx), List.filter_cons]
      split
      · rw [List.length_cons]; omega
      · omega
  exact key M.faces h.fs
theorem side_lt {n : Nat} {f : Face} (h : FaceOk n f) {i j : Nat} (hm : (i, j) ∈ pairs f) : i < j ∧ j < n := by
  obtain ⟨h4, h5, h6, h1, h2, h3⟩ := h
  unfold pairs at hm
  simp only [List.mem_cons, Prod.mk.injEq, List.not_mem_nil, or_false] at hm
  omega
/-- the first open side by counting: none, if no count is odd; the least pair whose count is odd -/
theorem open_none {M : Mesh} (h : MeshOk M) (no : ∀ i j, (i, j) ∈ (M.faces.map pairs).flatten → cnt M.faces i j % 2 ≠ 1) : M.openSide = none := by
  unfold Mesh.openSide
  rw [List.findSome?_eq_none_iff]
  intro i hi
  rw [Option.map_eq_none_iff, List.find?_eq_none]
  intro j hj
  simp only [Bool.and_eq_true, decide_eq_true_eq, beq_iff_eq, not_and]
  intro hij q
  rw [← cnt_side h hij] at q
  refine no i j ?_ q
  rw [← List.count_pos_iff]
  have : cnt M.faces i j = ((M.faces.map pairs).flatten).count (i, j) := rfl
  omega
theorem find_range {p : Nat → Bool} {n j : Nat} (hj : j < n) (hp : p j = true) (hl : ∀ k, k < j → p k = false) : (List.range n).find? p = some j := by
  rw [List.find?_range_eq_some]
  exact ⟨hp, by simpa using hj, fun k hk => by simpa using hl k hk⟩
theorem open_some {M : Mesh} (h : MeshOk M) {i j : Nat} (hm : (i, j) ∈ (M.faces.map pairs).flatten) (ho : cnt M.faces i j % 2 = 1)
    (hl : ∀ a b, (a, b) ∈ (M.faces.map pairs).flatten → cnt M.faces a b % 2 = 1 → ¬ (a < i ∨ (a = i ∧ b < j))) : M.openSide = some (i, j) := by
  obtain ⟨hij, hjn⟩ : i < j ∧ j < M.corners.length := by
    obtain ⟨l, hl1, hl2⟩ := List.mem_flatten.mp hm
    obtain ⟨f, hf, rfl⟩ := List.mem_map.mp hl1
    exact side_lt (h.fs f hf) hl2
  have mem : ∀ a b, a < b → M.sideOf a b % 2 = 1 → (a, b) ∈ (M.faces.map pairs).flatten ∧ cnt M.faces a b % 2 = 1 := fun a b hab q => by
    rw [← cnt_side h hab] at q
    refine ⟨?_, q⟩
    rw [← List.count_pos_iff]
    have : cnt M.faces a b = ((M.faces.map pairs).flatten).count (a, b) := rfl
    omega
  have inner : ((List.range M.corners.length).find? fun (k : Nat) => decide (i < k) && M.sideOf i k % 2 == 1) = some j := by
    refine find_range hjn ?_ fun k hk => ?_
    · rw [decide_eq_true hij, ← cnt_side h hij, ho]
      rfl
    · cases z : (decide (i < k) && M.sideOf i k % 2 == 1) with
      | false => rfl
      | true =>
        simp only [Bool.and_eq_true, decide_eq_true_eq, beq_iff_eq] at z
        obtain ⟨m1, m2⟩ := mem i k z.1 z.2
        exact absurd (.inr ⟨rfl, hk⟩) (hl i k m1 m2)
  unfold Mesh.openSide
  rw [List.findSome?_eq_some_iff]
  refine ⟨List.range i, i, (List.range (M.corners.length - i - 1)).map (fun x => i + 1 + x), ?_, by rw [inner]; rfl, fun a ha => ?_⟩
  · have e : M.corners.length = i + (1 + (M.corners.length - i - 1)) := by omega
    conv => lhs; rw [e]
    rw [List.range_add, List.range_add]
    simp [Nat.add_assoc]
  · have ha' : a < i := List.mem_range.mp ha
    rw [Option.map_eq_none_iff, List.find?_eq_none]
    intro k hk
    simp only [Bool.and_eq_true, decide_eq_true_eq, beq_iff_eq, not_and]
    intro hak q
    obtain ⟨m1, m2⟩ := mem a k hak q
    exact hl a k m1 m2 (.inl ha')
end MM

end

section
set_option Elab.async false
set_option linter.all false
/-! What the specification's spread leads to: the cells that are reached. Plain Lean. -/
namespace FM
open Bead

/-! ### neighbours -/
/-! ### the rounds -/
end FM

end

section
set_option Elab.async false
set_option linter.all false
/-! Pieces by their least cells. Plain Lean. -/
namespace FM
open Bead

/-! ### from one cell to another -/
/-! ### pieces -/
end FM

end

section
set_option Elab.async false
set_option linter.all false
/-! A body's bytes, judged and told. Plain Lean. -/
namespace BM
open Bead

/-! ### filled -/
end BM

end

section
set_option Elab.async false
set_option linter.all false
/-! Near by q: grown and shrunk; numbers in tens. Plain Lean. -/
namespace BM
open Bead

/-! ### numbers in tens -/
end BM

end

section
set_option Elab.async false
set_option linter.all false
/-! A body's bytes as the program reads and packs them. Plain Lean. -/
namespace BM
open Bead

/-! ### packed -/
/-! ### places as whole numbers -/
end BM
namespace BM
open Bead
end BM

end

section
set_option Elab.async false
set_option linter.all false
/-! Drawings of layers. Plain Lean. -/
namespace BM
open Bead
end BM

end

section
set_option Elab.async false
set_option linter.all false
/-! Bodies grown and shrunk, as the program finds them: over the places of and round a layer. Plain Lean. -/
namespace BM
open Bead
end BM

end

section
set_option Elab.async false
set_option linter.all false
/-! Regions as the program finds them, and what they are. Plain Lean. -/
namespace RM
open Bead FM
/-! ### pieces -/
/-! ### neighbours as the program finds them -/
end RM
namespace RM
open Bead FM
end RM
namespace RM
open Bead FM
end RM

end

section
set_option Elab.async false
set_option linter.all false
/-! A mesh's text by lines; bounds; meshes put together and turned. Plain Lean. -/
namespace MM
open Bead
end MM
namespace MM
open Bead
theorem corner_bound {cs : List (List Nat)} (h : ∀ v ∈ cs.map cornerOf, CornerOk v) (h3 : ∀ x ∈ cs, x.length = 3) : ∀ x ∈ cs, ∀ n ∈ x, n ≤ 65535 := by
  intro x hx n hn
  have h1 := h _ (List.mem_map.mpr ⟨x, hx, rfl⟩)
  match x, h3 x hx, hn, h1 with
  | [a, b, c], _, hn, h1 =>
    simp only [List.mem_cons, List.not_mem_nil, or_false] at hn
    rcases hn with rfl | rfl | rfl
    · exact h1.x
    · exact h1.y
    · exact h1.z
theorem face_bound {fs : List (List Nat)} {k : Nat} (h : ∀ f ∈ fs.map faceOf, FaceOk k f) (h3 : ∀ x ∈ fs, x.length = 3) : ∀ x ∈ fs, ∀ n ∈ x, n < k := by
  intro x hx n hn
  have h1 := h _ (List.mem_map.mpr ⟨x, hx, rfl⟩)
  match x, h3 x hx, hn, h1 with
  | [a, b, c], _, hn, h1 =>
    simp only [List.mem_cons, List.not_mem_nil, or_false] at hn
    rcases hn with rfl | rfl | rfl
    · exact h1.a
    · exact h1.b
    · exact h1.c
end MM
namespace MM
open Bead
/-- three numbers up to 65535 -/
structure Pt3 (x : List Nat) : Prop where
  len : x.length = 3
  le : ∀ n ∈ x, n ≤ 65535
theorem Pt3.ex {x : List Nat} (h : Pt3 x) : ∃ a b c, x = [a, b, c] ∧ a ≤ 65535 ∧ b ≤ 65535 ∧ c ≤ 65535 := by
  match x, h.len, h.le with
  | [a, b, c], _, hl => exact ⟨a, b, c, rfl, hl a (by simp), hl b (by simp), hl c (by simp)⟩
end MM

end

section
set_option Elab.async false
set_option linter.all false
/-! Rays and triangles, as the program reckons. Plain Lean. -/
namespace RY
open Bead
def co (p : Pt) : Nat → Int
  | 0 => p.x
  | 1 => p.y
  | _ => p.z
def sideL (a b p : Pt) (u v : Nat) : List Int := [(co b u - co a u) * (co p v - co a v) - (co b v - co a v) * (co p u - co a u), -(co b v - co a v), co b u - co a u]
def sd (a b p : Pt) (u v : Nat) : Int := sgn (sideL a b p u v)
theorem sgn_neg : ∀ l : List Int, sgn (l.map fun z => -z) = -sgn l
  | [] => rfl
  | v :: l => by
    rw [List.map_cons, sgn, sgn, sgn_neg l]
    by_cases h : v = 0
    · rw [if_pos h, if_pos (by omega)]
    · rw [if_neg h, if_neg (by omega)]
      by_cases h2 : 0 < v
      · rw [if_pos h2, if_neg (by omega)]
      · rw [if_neg h2, if_pos (by omega)]
        rfl
/-- the two axes across an axis -/
def across : Nat → Nat × Nat
  | 0 => (1, 2)
  | 1 => (0, 2)
  | _ => (0, 1)
/-- the specification's number of an axis -/
def axOf : Nat → Nat
  | 0 => 1
  | 1 => 2
  | _ => 0
theorem side_z (a b p : Pt) : sd a b p 0 1 = edgeSide 0 a b p := rfl
theorem side_x (a b p : Pt) : sd a b p 1 2 = edgeSide 1 a b p := rfl
theorem side_y (a b p : Pt) : sd a b p 0 2 = -edgeSide 2 a b p := by
  unfold sd edgeSide
  dsimp only
  rw [if_neg (by decide), if_neg (by decide), ← sgn_neg]
  congr 1
  show [(b.x - a.x) * (p.z - a.z) - (b.z - a.z) * (p.x - a.x), -(b.z - a.z), b.x - a.x] = [-((b.z - a.z) * (p.x - a.x) - (b.x - a.x) * (p.z - a.z)), -(b.z - a.z), - -(b.x - a.x)]
  rw [Int.neg_sub ((b.z - a.z) * (p.x - a.x)), Int.neg_neg]
/-- crossed, as the program finds it -/
def crossB (a b c p : Pt) (u v : Nat) : Bool := if sd a b p u v = 0 ∨ ¬ sd b c p u v = sd a b p u v then false else decide (sd c a p u v = sd a b p u v)
theorem cross_of {s1 s2 s3 e1 e2 e3 : Int} (h : (s1 = e1 ∧ s2 = e2 ∧ s3 = e3) ∨ (s1 = -e1 ∧ s2 = -e2 ∧ s3 = -e3)) : (if s1 = 0 ∨ ¬ s2 = s1 then false else decide (s3 = s1)) = (e1 != 0 && (e1 == e2 && e2 == e3)) := by
  rw [Bool.eq_iff_iff]
  by_cases z : s1 = 0 ∨ ¬ s2 = s1
  · rw [if_pos z]
    simp only [Bool.false_eq_true, Bool.and_eq_true, bne_iff_ne, beq_iff_eq, false_iff]
    omega
  · rw [if_neg z]
    simp only [decide_eq_true_eq, Bool.and_eq_true, bne_iff_ne, beq_iff_eq]
    omega
theorem crossed_is {ax : Nat} (h : ax < 3) (a b c p : Pt) : crossB a b c p (across ax).1 (across ax).2 = metBy (axOf ax) a b c p := by
  unfold crossB metBy
  match ax, h with
  | 0, _ => exact cross_of (.inl ⟨side_x a b p, side_x b c p, side_x c a p⟩)
  | 1, _ => exact cross_of (.inr ⟨side_y a b p, side_y b c p, side_y c a p⟩)
  | 2, _ => exact cross_of (.inl ⟨side_z a b p, side_z b c p, side_z c a p⟩)
/-- the axis of a look, and the way along it -/
def axLook (k : Nat) : Nat := [2, 2, 0, 0, 1, 1].getD k 0
def wayLook (k : Nat) : Int := if k % 2 = 0 then 1 else -1
theorem look_at {k : Nat} (h : k < 6) : ([2, 2, 0, 0, 1, 1] : List Int)[k]? = some (axLook k : Int) ∧ ([1, -1, 1, -1, 1, -1] : List Int)[k]? = some (wayLook k) ∧ axLook k < 3 ∧ axOf (axLook k) = k / 2 := by
  match k, h with
  | 0, _ => exact ⟨rfl, rfl, by decide, rfl⟩
  | 1, _ => exact ⟨rfl, rfl, by decide, rfl⟩
  | 2, _ => exact ⟨rfl, rfl, by decide, rfl⟩
  | 3, _ => exact ⟨rfl, rfl, by decide, rfl⟩
  | 4, _ => exact ⟨rfl, rfl, by decide, rfl⟩
  | 5, _ => exact ⟨rfl, rfl, by decide, rfl⟩
theorem across_at {ax : Nat} (h : ax < 3) : ([[1, 2], [0, 2], [0, 1]] : List (List Int))[ax]? = some [((across ax).1 : Int), ((across ax).2 : Int)] ∧ (across ax).1 < 3 ∧ (across ax).2 < 3 := by
  match ax, h with
  | 0, _ => exact ⟨rfl, by decide, by decide⟩
  | 1, _ => exact ⟨rfl, by decide, by decide⟩
  | 2, _ => exact ⟨rfl, by decide, by decide⟩
def aheadB (k : Nat) (a b c p : Pt) : Bool := decide (planeSide a b c p * sgn [co (normal a b c) (axLook k)] = -wayLook k)
theorem ahead_is {k : Nat} (h : k < 6) (a b c p : Pt) : ahead k a b c p = (metBy (k / 2) a b c p && aheadB k a b c p) := by
  unfold ahead aheadB wayLook
  congr 1
  have e : co (normal a b c) (axLook k) = along (k / 2) (normal a b c) := by
    match k, h with
    | 0, _ => rfl
    | 1, _ => rfl
    | 2, _ => rfl
    | 3, _ => rfl
    | 4, _ => rfl
    | 5, _ => rfl
  rw [e, Bool.eq_iff_iff, beq_iff_eq, decide_eq_true_eq]
  split <;> omega
/-- no number is far from 0 -/
structure Near (p : Pt) : Prop where
  x1 : -200000 ≤ p.x
  x2 : p.x ≤ 200000
  y1 : -200000 ≤ p.y
  y2 : p.y ≤ 200000
  z1 : -200000 ≤ p.z
  z2 : p.z ≤ 200000
theorem Near.co {p : Pt} (h : Near p) : ∀ i, -200000 ≤ co p i ∧ RY.co p i ≤ 200000
  | 0 => ⟨h.x1, h.x2⟩
  | 1 => ⟨h.y1, h.y2⟩
  | _ + 2 => ⟨h.z1, h.z2⟩
def Trip (t : Pt × Pt × Pt) : Prop := Near t.1 ∧ Near t.2.1 ∧ Near t.2.2
def metL (k : Nat) (p : Pt) (t : Pt × Pt × Pt) : Bool := metBy (k / 2) t.1 t.2.1 t.2.2 p
def aheadL (k : Nat) (p : Pt) (t : Pt × Pt × Pt) : Bool := aheadB k t.1 t.2.1 t.2.2 p
theorem inside_is {k : Nat} (h : k < 6) (l : List (Pt × Pt × Pt)) (p : Pt) : insideOf l k p = (((l.filter (metL k p)).filter (aheadL k p)).length % 2 == 1) := by
  unfold insideOf
  rw [List.filter_filter]
  congr 3
  refine List.filter_congr fun t _ => ?_
  rw [ahead_is h, Bool.and_comm]
  rfl
theorem centre_near {c x y z : Nat} (hc : c ≤ 8192) (hx : x ≤ 11) (hy : y ≤ 11) (hz : z ≤ 11) : Near (centre c x y z) := by
  have f : ∀ i : Nat, i ≤ 11 → (2 * i + 1) * c ≤ 200000 := fun i hi => by
    have : (2 * i + 1) * c ≤ 23 * 8192 := Nat.mul_le_mul (by omega) hc
    omega
  have h1 := f x hx
  have h2 := f y hy
  have h3 := f z hz
  refine ⟨?_, ?_, ?_, ?_, ?_, ?_⟩ <;> unfold centre <;> dsimp only <;> omega
end RY

end

section
set_option Elab.async false
set_option linter.all false
set_option maxRecDepth 100000
set_option maxHeartbeats 2000000
namespace MP
open PySem PySem.Spec PyProof.Rows L2
open Bead (Bytes In isDigit)
/-! ### the text by places -/
def top (i : Nat) : Stmt := PySem.Challenge.pw_beadbodies_s06_inside.main.body.getD i (.Pass ⟨0, 0, 0, 0⟩)
abbrev sXI : Stmt := inClass (top 11) 0
abbrev sMI : Stmt := inClass (top 12) 0
abbrev sRI : Stmt := inClass (top 13) 0
abbrev sAt : Stmt := inClass (top 13) 1
abbrev sSee : Stmt := inClass (top 13) 2
abbrev sDig : Stmt := inClass (top 13) 3
abbrev sSkip : Stmt := inClass (top 13) 4
abbrev sBeg : Stmt := top 14
abbrev sRd : Stmt := top 15
abbrev sRn : Stmt := top 16
abbrev sRl : Stmt := top 17
abbrev sTc : Stmt := top 18
abbrev sTt : Stmt := top 19
abbrev sRm : Stmt := top 20
abbrev ssides : Stmt := top 21
abbrev sfirst_odd_side : Stmt := top 22
abbrev scentre_of : Stmt := top 28
abbrev sdoubled : Stmt := top 29
abbrev sdoubled_triangles : Stmt := top 30
abbrev sfirst_sign : Stmt := top 31
abbrev sside_sign : Stmt := top 32
abbrev sis_crossed : Stmt := top 33
abbrev sdifference : Stmt := top 34
abbrev sdot : Stmt := top 35
abbrev scross : Stmt := top 36
abbrev sis_ahead : Stmt := top 37
abbrev scrossed_triangles : Stmt := top 38
abbrev smeets_odd : Stmt := top 39
abbrev slies_inside : Stmt := top 40
abbrev sAns : Stmt := top 48
abbrev sRef : Stmt := top 49
abbrev sIp : Stmt := top 50
abbrev sMo : Stmt := top 51
abbrev sinside : Stmt := top 52
/-- the addresses: classes, functions -/
structure Adr where
  cF : Addr
  fF : Addr
  cM : Addr
  fM : Addr
  cR : Addr
  fR : Addr
  fAt : Addr
  fSee : Addr
  fDig : Addr
  fSkip : Addr
  fBeg : Addr
  fRd : Addr
  fRn : Addr
  fRl : Addr
  fTc : Addr
  fTt : Addr
  fRm : Addr
  fsides : Addr
  ffirst_odd_side : Addr
  fcentre_of : Addr
  fdoubled : Addr
  fdoubled_triangles : Addr
  ffirst_sign : Addr
  fside_sign : Addr
  fis_crossed : Addr
  fdifference : Addr
  fdot : Addr
  fcross : Addr
  fis_ahead : Addr
  fcrossed_triangles : Addr
  fmeets_odd : Addr
  flies_inside : Addr
  fAns : Addr
  fRef : Addr
  fIp : Addr
  fMo : Addr
  finside : Addr
/-- a def of the text -/
def FB (K : PySem.W.Frag) (x qual : Str) (st : Stmt) (f : Addr) (ps : List Str) : Prop := ∃ fd, Fun K x qual st f fd ∧ Binds K fd ps []
/-- a global that is a number -/
def NumIs (mg : Str → Option Value) (x : Str) (z : Int) : Prop := ∃ t, mg x = some (.int z t)
structure Txt (K : PySem.W.Frag) (mg : Str → Option Value) (A : Adr) : Prop where
  exF : ExMk K A.cF A.fF ["place"]
  gF : mg "MeshFault" = some (.ref A.cF)
  bF : FB K "__init__" "MeshFault.__init__" sXI A.fF ["self", "place"]
  cM : Cls K A.cM
  mkM : Mk K A.cM A.fM
  nMc : NoAttr K A.cM "corners"
  nMt : NoAttr K A.cM "triangles"
  gM : mg "Mesh" = some (.ref A.cM)
  bM : FB K "__init__" "Mesh.__init__" sMI A.fM ["self", "corners", "triangles"]
  cR : Cls K A.cR
  mkR : Mk K A.cR A.fR
  nRs : NoAttr K A.cR "signs"
  nRp : NoAttr K A.cR "place"
  gR : mg "Reader" = some (.ref A.cR)
  bR : FB K "__init__" "Reader.__init__" sRI A.fR ["self", "signs"]
  mAt : Meth K A.cR "at_end" A.fAt
  bAt : FB K "at_end" "Reader.at_end" sAt A.fAt ["self"]
  mSee : Meth K A.cR "sees" A.fSee
  bSee : FB K "sees" "Reader.sees" sSee A.fSee ["self", "sign"]
  mDig : Meth K A.cR "sees_digit" A.fDig
  bDig : FB K "sees_digit" "Reader.sees_digit" sDig A.fDig ["self"]
  mSkip : Meth K A.cR "skip" A.fSkip
  bSkip : FB K "skip" "Reader.skip" sSkip A.fSkip ["self", "sign"]
  gBeg : mg "begins_number" = some (.ref A.fBeg)
  bBeg : FB K "begins_number" "begins_number" sBeg A.fBeg ["value", "greatest", "taken"]
  gRd : mg "read_digit" = some (.ref A.fRd)
  bRd : FB K "read_digit" "read_digit" sRd A.fRd ["reader", "tens", "greatest", "taken"]
  gRn : mg "read_number" = some (.ref A.fRn)
  bRn : FB K "read_number" "read_number" sRn A.fRn ["reader", "greatest", "taken"]
  gRl : mg "read_line" = some (.ref A.fRl)
  bRl : FB K "read_line" "read_line" sRl A.fRl ["reader", "sign", "greatest", "differ"]
  gTc : mg "takes_corner" = some (.ref A.fTc)
  bTc : FB K "takes_corner" "takes_corner" sTc A.fTc ["mesh"]
  gTt : mg "takes_triangle" = some (.ref A.fTt)
  bTt : FB K "takes_triangle" "takes_triangle" sTt A.fTt ["mesh"]
  gRm : mg "read_mesh" = some (.ref A.fRm)
  bRm : FB K "read_mesh" "read_mesh" sRm A.fRm ["signs"]
  gsides : mg "sides" = some (.ref A.fsides)
  bsides : FB K "sides" "sides" ssides A.fsides ["triangle"]
  gfirst_odd_side : mg "first_odd_side" = some (.ref A.ffirst_odd_side)
  bfirst_odd_side : FB K "first_odd_side" "first_odd_side" sfirst_odd_side A.ffirst_odd_side ["mesh"]
  gcentre_of : mg "centre_of" = some (.ref A.fcentre_of)
  bcentre_of : FB K "centre_of" "centre_of" scentre_of A.fcentre_of ["c", "x", "y", "z"]
  gdoubled : mg "doubled" = some (.ref A.fdoubled)
  bdoubled : FB K "doubled" "doubled" sdoubled A.fdoubled ["corner"]
  gdoubled_triangles : mg "doubled_triangles" = some (.ref A.fdoubled_triangles)
  bdoubled_triangles : FB K "doubled_triangles" "doubled_triangles" sdoubled_triangles A.fdoubled_triangles ["mesh"]
  gfirst_sign : mg "first_sign" = some (.ref A.ffirst_sign)
  bfirst_sign : FB K "first_sign" "first_sign" sfirst_sign A.ffirst_sign ["numbers"]
  gside_sign : mg "side_sign" = some (.ref A.fside_sign)
  bside_sign : FB K "side_sign" "side_sign" sside_sign A.fside_sign ["a", "b", "p", "u", "v"]
  gis_crossed : mg "is_crossed" = some (.ref A.fis_crossed)
  bis_crossed : FB K "is_crossed" "is_crossed" sis_crossed A.fis_crossed ["triangle", "p", "axis"]
  gdifference : mg "difference" = some (.ref A.fdifference)
  bdifference : FB K "difference" "difference" sdifference A.fdifference ["a", "b"]
  gdot : mg "dot" = some (.ref A.fdot)
  bdot : FB K "dot" "dot" sdot A.fdot ["a", "b"]
  gcross : mg "cross" = some (.ref A.fcross)
  bcross : FB K "cross" "cross" scross A.fcross ["a", "b"]
  gis_ahead : mg "is_ahead" = some (.ref A.fis_ahead)
  bis_ahead : FB K "is_ahead" "is_ahead" sis_ahead A.fis_ahead ["triangle", "p", "look"]
  gcrossed_triangles : mg "crossed_triangles" = some (.ref A.fcrossed_triangles)
  bcrossed_triangles : FB K "crossed_triangles" "crossed_triangles" scrossed_triangles A.fcrossed_triangles ["triangles", "p", "look"]
  gmeets_odd : mg "meets_odd" = some (.ref A.fmeets_odd)
  bmeets_odd : FB K "meets_odd" "meets_odd" smeets_odd A.fmeets_odd ["crossed", "p", "look"]
  glies_inside : mg "lies_inside" = some (.ref A.flies_inside)
  blies_inside : FB K "lies_inside" "lies_inside" slies_inside A.flies_inside ["mesh", "p", "look"]
  gAns : mg "answer" = some (.ref A.fAns)
  bAns : FB K "answer" "answer" sAns A.fAns ["number", "told", "numbers"]
  gRef : mg "refusal" = some (.ref A.fRef)
  bRef : FB K "refusal" "refusal" sRef A.fRef ["number"]
  gIp : mg "is_pitch" = some (.ref A.fIp)
  bIp : FB K "is_pitch" "is_pitch" sIp A.fIp ["c"]
  gMo : mg "mesh_of" = some (.ref A.fMo)
  bMo : FB K "mesh_of" "mesh_of" sMo A.fMo ["t"]
  ginside : mg "inside" = some (.ref A.finside)
  binside : FB K "inside" "inside" sinside A.finside ["c", "x", "y", "z", "look", "t"]
  n12 : NumIs mg "GREATEST_SIDE" 12
  n64 : NumIs mg "MOST_CORNERS" 64
  n128 : NumIs mg "MOST_TRIANGLES" 128
  nG : NumIs mg "GREATEST_COORDINATE" 65535
  nLE : NumIs mg "LINE_END" 10
  nB : NumIs mg "BLANK" 32
  n48 : NumIs mg "NOUGHT" 48
  n57 : NumIs mg "NINE" 57
  nT : NumIs mg "TRIANGLE_SIGN" 116
  nC : NumIs mg "CORNER_SIGN" 118
  n_GREATEST_LOOK : NumIs mg "GREATEST_LOOK" 5
  nMB : NumIs mg "MOST_BYTES" 16384
  n_GREATEST_PITCH : NumIs mg "GREATEST_PITCH" 8192
  n_OUT_OF_RANGE : NumIs mg "OUT_OF_RANGE" (-1)
  nTL : NumIs mg "TOO_LONG" (-2)
  nNS : NumIs mg "NONE_SUCH" (-6)
  n_UNFIT : NumIs mg "UNFIT" (-9)
  any : mg "any" = none
  len : mg "len" = none
  «max» : mg "max" = none
  «min» : mg "min" = none
  range : mg "range" = none
  sorted : mg "sorted" = none
  tuple : mg "tuple" = none
  t_LOOK_AXES : TupG K mg "LOOK_AXES" [2, 2, 0, 0, 1, 1]
  t_LOOK_WAYS : TupG K mg "LOOK_WAYS" [1, -1, 1, -1, 1, -1]
  t_AXES_ACROSS : TupsG K mg "AXES_ACROSS" [[1, 2], [0, 2], [0, 1]]
/- not told of: LOOK_AXES, LOOK_WAYS, AXES_ACROSS -/
/-! ### common -/
def bV (c : UInt8) : V := .int (c.toNat : Int)
def nV (n : Nat) : V := .int (n : Int)
theorem yesT {σ : L2.St} {H : Hp} {A B : Hp → Prop} (h : A H) : tYes σ H (fun b H3 => if b = true then A H3 else B H3) := by
  show (if true = true then A H else B H)
  rw [if_pos rfl]
  exact h
theorem blkOk_at {X : Cx} {N : List Str} {sc scope : Scope} {own : List (Str × Nat)} (h : blkC N sc scope own = true) (hN : X.N = N := by rfl) (hs : X.env.scope = sc := by rfl) : BlkOk X.N X.env.scope scope own := by
  rw [hN, hs]
  exact blkOk_by h
theorem pe_num {X : Cx} {x : Str} {z : Int} {pos : Pos} (hg : Gl X x) (n : NumIs X.mg x z) (hd : (x == ("__debug__" : Str)) = false := by decide) : PE X (.Name x pos) (tC (.int z)) := by
  obtain ⟨t, e⟩ := n
  exact pe_glob hg e ⟨t, rfl⟩ hd
theorem pe_gref {X : Cx} {x : Str} {a : Addr} {pos : Pos} (hg : Gl X x) (hm : X.mg x = some (.ref a)) (hd : (x == ("__debug__" : Str)) = false := by decide) : PE X (.Name x pos) (tC (.ref a)) := pe_glob (v := .ref a) hg hm (show L2.RelV (.ref a) (.ref a) from rfl) hd
theorem pe_no {X : Cx} {e : Expr} : PE X e (fun _ _ _ => False) := fun _ _ _ _ _ _ h => h.elim

/-- all that was tracked but the object at r is as it was -/
def Keep (r : Addr) (H H' : Hp) : Prop := ∀ b o, H b = some o → b ≠ r → H' b = some o
theorem Same.new {H : Hp} {l : Addr} {o : HO} (h : H l = none) : Same H (upd H l o) := fun b u q => by
  rw [upd_ne (ne_of_none q h)]
  exact q
theorem Keep.refl (r : Addr) (H : Hp) : Keep r H H := fun _ _ e _ => e
theorem Keep.trans {r : Addr} {H H1 H2 : Hp} (a : Keep r H H1) (b : Keep r H1 H2) : Keep r H H2 := fun c o h n => b c o (a c o h n) n
theorem Keep.seq {K : PySem.W.Frag} {r : Addr} {H H' : Hp} {C dx : Addr} {fs : List (Str × V)} {a : Addr} {xs : List V} (hr : H r = some (.ins C dx fs)) (k : Keep r H H') (h : SqL K H a xs) : SqL K H' a xs := by
  rcases h with (h | ⟨o, h⟩) | h
  · exact .inl (.inl (k _ _ h (ne_of h hr (by intro z; cases z))))
  · exact .inl (.inr ⟨o, k _ _ h (ne_of h hr (by intro z; cases z))⟩)
  · exact .inr h
theorem noPlace : typeLookup (.type "ValueError") "place" = pure none := by
  rw [typeLookup_type, builtinLookup_eq_fast]
  kernel_rfl
theorem u8_eq {c d : UInt8} : ((c.toNat : Int) = (d.toNat : Int)) ↔ c = d := by
  constructor
  · intro h
    exact UInt8.toNat_inj.mp (by omega)
  · rintro rfl
    rfl
theorem in_nats (v : Nat) : ∀ ts : List Nat, inV (.int (v : Int)) (ts.map nV) = ts.contains v
  | [] => rfl
  | t :: ts => by
    have ih := in_nats v ts
    unfold inV at ih ⊢
    rw [List.map_cons, List.any_cons, ih, List.contains_cons]
    congr 1
    show (((t : Int) == (v : Int)) : Bool) = (v == t)
    rw [Bool.eq_iff_iff, beq_iff_eq, beq_iff_eq]
    omega
theorem flat_nats : ∀ ts : List Nat, (ts.map nV).all flatV = true
  | [] => rfl
  | t :: ts => by
    rw [List.map_cons, List.all_cons, flat_nats ts]
    rfl
theorem line_at {n : Nat} (h : n ≤ 300000) : n ≤ sizeLine := Nat.le_trans h (by decide)
/-! ### the data -/
def rf (a : Addr) (p : Nat) : List (Str × V) := putF "place" (.int (p : Int)) (putF "signs" (.ref a) [])
theorem rf_signs (a : Addr) (p : Nat) : (rf a p).lookup ("signs" : Str) = some (.ref a) := by
  unfold rf
  rw [lookup_putF, if_neg (by decide +kernel), lookup_putF, if_pos rfl]
theorem rf_place (a : Addr) (p : Nat) : (rf a p).lookup ("place" : Str) = some (.int (p : Int)) := by
  unfold rf
  rw [lookup_putF, if_pos rfl]
theorem rf_no (a : Addr) (p : Nat) {m : Str} (h1 : ¬ m = "place") (h2 : ¬ m = "signs") : (rf a p).lookup m = none := by
  unfold rf
  rw [lookup_putF, if_neg h1, lookup_putF, if_neg h2]
  all_goals rfl
theorem rf_put (a : Addr) (p q : Nat) : putF "place" (.int (q : Int)) (rf a p) = rf a q := by
  unfold rf
  have e : putF "signs" (V.ref a) [] = [(("signs" : Str), V.ref a)] := rfl
  have n : ¬ (("signs" : Str) = "place") := by decide +kernel
  rw [e]
  show putF "place" _ (if ("signs" : Str) = "place" then _ else _) = (if ("signs" : Str) = "place" then _ else _)
  rw [if_neg n, if_neg n]
  show (if ("signs" : Str) = "place" then _ else ((("signs" : Str), V.ref a) :: (if ("place" : Str) = "place" then _ else _))) = _
  rw [if_neg n, if_pos rfl]
  rfl
def mf (c t : Addr) : List (Str × V) := putF "triangles" (.ref t) (putF "corners" (.ref c) [])
theorem mf_c (c t : Addr) : (mf c t).lookup ("corners" : Str) = some (.ref c) := by
  unfold mf
  rw [lookup_putF, if_neg (by decide +kernel), lookup_putF, if_pos rfl]
theorem mf_t (c t : Addr) : (mf c t).lookup ("triangles" : Str) = some (.ref t) := by
  unfold mf
  rw [lookup_putF, if_pos rfl]
/-- a reader of B at a, place p -/
def RdAt (A : Adr) (H : Hp) (r a : Addr) (p : Nat) : Prop := ∃ dx, H r = some (.ins A.cR dx (rf a p))
/-- what is wanted where MeshFault(p) is raised -/
def Ex (A : Adr) (r : Addr) (H : Hp) (E : XK) (p : Nat) : Prop := ∀ (dx : Addr) (H' : Hp), H' dx = some (.xd [("place", .int (p : Int))]) → Keep r H H' → E (.ref A.cF) (some dx) H'
theorem Ex.at_ {A : Adr} {r : Addr} {H H1 : Hp} {E : XK} {p : Nat} (h : Ex A r H E p) (k : Keep r H H1) : Ex A r H1 E p := fun dx H' q k' => h dx H' q (k.trans k')
def ExM (A : Adr) (H : Hp) (E : XK) (p : Nat) : Prop := ∀ (dx : Addr) (H' : Hp), H' dx = some (.xd [("place", .int (p : Int))]) → Same H H' → E (.ref A.cF) (some dx) H'
theorem Keep.raised {r ea : Addr} {H0 H H' : Hp} {o : HO} (ne : H ea = none) (s : Keep r H0 H) (kx : Keep ea (upd H ea o) H') : Keep r H0 (del H' ea) := fun b u q nb => by
  have q1 := s b u q nb
  have nb2 := ne_of_none q1 ne
  rw [del_ne nb2]
  exact kx b u (by rw [upd_ne nb2]; exact q1) nb2
theorem Same.raised {ea : Addr} {H0 H H' : Hp} {o : HO} (ne : H ea = none) (s : Same H0 H) (kx : Keep ea (upd H ea o) H') : Same H0 (del H' ea) := fun b u q => by
  have q1 := s b u q
  have nb2 := ne_of_none q1 ne
  rw [del_ne nb2]
  exact kx b u (by rw [upd_ne nb2]; exact q1) nb2
section
variable {P : Program} {w : World} {K : PySem.W.Frag} {mg : Str → Option Value} {base : Heap} {A : Adr}
/-! ### MeshFault.__init__ -/
def spXI (A : Adr) : Sp := fun vs H Q _ => ∃ (e : Addr) (z : Nat), vs = [.ref e, .int (z : Int)] ∧ H e = some (Ex0 e A.cF) ∧
  ∀ (dx : Addr) (H' : Hp), H' e = some (ExF e A.cF dx) → H' dx = some (.xd [("place", .int (z : Int))]) → dx ≠ e → Keep e H H' → Q .non H'
theorem scXI : FnScope ["self", "place"] ["self", "place"] (defScope sXI) := ⟨rfl, rfl, rfl, by decide +kernel, rfl, by decide +kernel, by decide +kernel⟩
theorem ok_xi (T : Txt K mg A) : ∃ fd, FnOk P w K mg base CX0 1 A.fF fd ["self", "place"] (spXI A) ∧ Binds K fd ["self", "place"] [] := by
  obtain ⟨fd, F, b⟩ := T.bF
  refine ⟨fd, F.ok scXI (fun vs H Q E h => ?_) (fun cdv A' outer s H vs Q E hr h => ?_), b⟩
  · obtain ⟨e, z, rfl, _⟩ := h
    rfl
  · obtain ⟨e, z, rfl, he, k⟩ := h
    refine ⟨_, pss_one (ps_x0 (pv 0) (pv 1) rfl), ?_⟩
    refine ⟨_, rfl, _, rfl, e, A.cF, A.fF, ["place"], rfl, he, T.exF.ex, List.mem_singleton.mpr rfl, noPlace, fun dx nd ne => ?_⟩
    exact k dx _ upd_same (by rw [upd_ne ne, upd_same]) ne fun b o q nb => by rw [upd_ne nb, upd_ne (ne_of_none q nd)]; exact q
/-! ### Mesh.__init__, Reader.__init__ -/
def spMI (A : Adr) : Sp := fun vs H Q _ => ∃ (x dx c t : Addr), vs = [.ref x, .ref c, .ref t] ∧ H x = some (.ins A.cM dx []) ∧ ∀ H' : Hp, H' x = some (.ins A.cM dx (mf c t)) → Keep x H H' → Q .non H'
theorem scMI : FnScope ["self", "corners", "triangles"] ["self", "corners", "triangles"] (defScope sMI) := ⟨rfl, rfl, rfl, by decide +kernel, rfl, by decide +kernel, by decide +kernel⟩
theorem ok_mi (T : Txt K mg A) : ∃ fd, FnOk P w K mg base CX0 1 A.fM fd ["self", "corners", "triangles"] (spMI A) ∧ Binds K fd ["self", "corners", "triangles"] [] := by
  obtain ⟨fd, F, b⟩ := T.bM
  refine ⟨fd, F.ok scMI (fun vs H Q E h => ?_) (fun cdv A' outer s H vs Q E hr h => ?_), b⟩
  · obtain ⟨x, dx, c, t, rfl, _⟩ := h
    rfl
  · obtain ⟨x, dx, c, t, rfl, hx, k⟩ := h
    refine ⟨_, pss_cons (ps_fld (pv 0) (pv 1) rfl) (pss_one (ps_fld (pv 0) (pv 2) rfl)), ?_⟩
    refine ⟨_, rfl, _, rfl, x, A.cM, dx, [], rfl, hx, T.cM, T.nMc, (by show 0 < 1000; decide), ?_⟩
    refine ⟨_, rfl, _, rfl, x, A.cM, dx, _, rfl, upd_same, T.cM, T.nMt, (by show 1 < 1000; decide), ?_⟩
    exact k _ upd_same fun b o e hb => by rw [upd_ne hb, upd_ne hb]; exact e
def spRI (A : Adr) : Sp := fun vs H Q _ => ∃ (x dx a : Addr), vs = [.ref x, .ref a] ∧ H x = some (.ins A.cR dx []) ∧ ∀ H' : Hp, RdAt A H' x a 0 → Keep x H H' → Q .non H'
theorem scRI : FnScope ["self", "signs"] ["self", "signs"] (defScope sRI) := ⟨rfl, rfl, rfl, by decide +kernel, rfl, by decide +kernel, by decide +kernel⟩
theorem ok_ri (T : Txt K mg A) : ∃ fd, FnOk P w K mg base CX0 1 A.fR fd ["self", "signs"] (spRI A) ∧ Binds K fd ["self", "signs"] [] := by
  obtain ⟨fd, F, b⟩ := T.bR
  refine ⟨fd, F.ok scRI (fun vs H Q E h => ?_) (fun cdv A' outer s H vs Q E hr h => ?_), b⟩
  · obtain ⟨x, dx, a, rfl, _⟩ := h
    rfl
  · obtain ⟨x, dx, a, rfl, hx, k⟩ := h
    refine ⟨_, pss_cons (ps_fld (pv 0) (pv 1) rfl) (pss_one (ps_fld (pv 0) pe_int rfl)), ?_⟩
    refine ⟨_, rfl, _, rfl, x, A.cR, dx, [], rfl, hx, T.cR, T.nRs, (by show 0 < 1000; decide), ?_⟩
    refine ⟨_, rfl, x, A.cR, dx, _, rfl, upd_same, T.cR, T.nRp, (by show 1 < 1000; decide), ?_⟩
    exact k _ ⟨dx, upd_same⟩ fun b o e hb => by rw [upd_ne hb, upd_ne hb]; exact e
/-! ### Reader's looks -/
def spAt (A : Adr) (K : PySem.W.Frag) : Sp := fun vs H Q _ => ∃ (r a : Addr) (p : Nat) (B : Bytes), vs = [.ref r] ∧ RdAt A H r a p ∧ SqL K H a (B.map bV) ∧ Q (.bl (decide (p = B.length))) H
theorem scAt : FnScope ["self"] ["self"] (defScope sAt) := ⟨rfl, rfl, rfl, by decide +kernel, rfl, by decide +kernel, by decide +kernel⟩
theorem ok_at (T : Txt K mg A) : ∃ fd, FnOk P w K mg base CX0 1 A.fAt fd ["self"] (spAt A K) ∧ Binds K fd ["self"] [] := by
  obtain ⟨fd, F, b⟩ := T.bAt
  refine ⟨fd, F.ok scAt (fun vs H Q E h => ?_) (fun cdv A' outer s H vs Q E hr h => ?_), b⟩
  · obtain ⟨r, a, p, B, rfl, _⟩ := h
    rfl
  · obtain ⟨r, a, p, B, rfl, ⟨dx, h1⟩, hs, k⟩ := h
    refine ⟨_, pss_one (ps_ret (pe_cmp (pc_eqI (pe_fld (pv 0) rfl) (pe_callB call_len_seq (by rfl) T.len PySem.boot_len (pa_cons (pe_fld (pv 0) rfl) pa_nil))))), ?_⟩
    refine ⟨_, rfl, r, A.cR, dx, _, _, rfl, h1, T.cR, T.nRp, rf_place a p, _, rfl, r, A.cR, dx, _, _, rfl, h1, T.cR, T.nRs, rf_signs a p, a, _, rfl, .inl hs, _, _, rfl, rfl, ?_⟩
    have e : decide ((p : Int) = ((B.map bV).length : Int)) = decide (p = B.length) := by
      rw [List.length_map, decide_eq_decide]
      omega
    show Q (.bl (decide ((p : Int) = ((B.map bV).length : Int)))) H
    rw [e]
    exact k
def spSee (A : Adr) (K : PySem.W.Frag) : Sp := fun vs H Q _ => ∃ (r a : Addr) (p : Nat) (B : Bytes) (c : UInt8), vs = [.ref r, .int (c.toNat : Int)] ∧ RdAt A H r a p ∧ SqL K H a (B.map bV) ∧ p ≤ B.length ∧ Q (.bl (decide (B[p]? = some c))) H
theorem scSee : FnScope ["self", "sign"] ["self", "sign"] (defScope sSee) := ⟨rfl, rfl, rfl, by decide +kernel, rfl, by decide +kernel, by decide +kernel⟩
theorem ok_see (T : Txt K mg A) : ∃ fd, FnOk P w K mg base CX0 2 A.fSee fd ["self", "sign"] (spSee A K) ∧ Binds K fd ["self", "sign"] [] := by
  obtain ⟨fd, F, b⟩ := T.bSee
  obtain ⟨fdA, GA, bA⟩ := ok_at (P := P) (w := w) (base := base) T
  refine ⟨fd, F.ok scSee (fun vs H Q E h => ?_) (fun cdv A' outer s H vs Q E hr h => ?_), b⟩
  · obtain ⟨r, a, p, B, c, rfl, _⟩ := h
    rfl
  · obtain ⟨r, a, p, B, c, rfl, ⟨dx, h1⟩, hs, hp, k⟩ := h
    refine ⟨_, pss_one (ps_ret (pe_and (pe_not (pe_meth0 (pv 0) T.cR T.mAt GA hr bA .nil pass0)) (pe_one (pe_cmpR op_eq (pe_ix ix_list (pe_fld (pv 0) rfl) (pe_fld (pv 0) rfl) (fun _ _ => rfl)) (pv 1) (nomark _))))), ?_⟩
    refine ⟨_, rfl, r, dx, _, rfl, h1, rf_no a p (by decide +kernel) (by decide +kernel), r, a, p, B, rfl, ⟨dx, h1⟩, hs, _, rfl, _, rfl, ?_⟩
    by_cases e : p = B.length
    · rw [decide_eq_true e]
      show Q (.bl false) H
      have n : B[p]? = none := List.getElem?_eq_none (by omega)
      rw [show decide (B[p]? = some c) = false by rw [n]; rfl] at k
      exact k
    · rw [decide_eq_false e]
      have hlt : p < B.length := by omega
      have g : B[p]? = some B[p] := List.getElem?_eq_getElem hlt
      show _
      refine ⟨_, rfl, r, A.cR, dx, _, _, rfl, h1, T.cR, T.nRs, rf_signs a p, _, rfl, r, A.cR, dx, _, _, rfl, h1, T.cR, T.nRp, rf_place a p, a, _, _, bV B[p], rfl, rfl, hs, atI_nat (by rw [List.getElem?_map, g]; rfl), _, rfl, rfl, ?_⟩
      have q : decide (bV B[p] = V.int (c.toNat : Int)) = decide (B[p]? = some c) := by
        rw [decide_eq_decide, g]
        constructor
        · intro z
          have z' : (B[p].toNat : Int) = (c.toNat : Int) := by
            injection z
          rw [u8_eq.mp z']
        · intro z
          rw [Option.some.inj z]
          rfl
      rw [q]
      exact k
/-- a digit stands at the place -/
def sd (B : Bytes) (p : Nat) : Bool := match B[p]? with
  | some c => isDigit c
  | none => false
theorem dig_int (c : UInt8) : isDigit c = (decide ((48 : Int) ≤ (c.toNat : Int)) && decide ((c.toNat : Int) ≤ 57)) := by
  unfold isDigit
  have h1 : ((48 : UInt8) ≤ c) ↔ ((48 : Int) ≤ (c.toNat : Int)) := by
    rw [UInt8.le_iff_toNat_le]
    show 48 ≤ c.toNat ↔ _
    omega
  have h2 : (c ≤ (57 : UInt8)) ↔ ((c.toNat : Int) ≤ 57) := by
    rw [UInt8.le_iff_toNat_le]
    show c.toNat ≤ 57 ↔ _
    omega
  rw [decide_eq_decide.mpr h1, decide_eq_decide.mpr h2]
def spDig (A : Adr) (K : PySem.W.Frag) : Sp := fun vs H Q _ => ∃ (r a : Addr) (p : Nat) (B : Bytes), vs = [.ref r] ∧ RdAt A H r a p ∧ SqL K H a (B.map bV) ∧ p ≤ B.length ∧ Q (.bl (sd B p)) H
theorem scDig : FnScope ["self"] ["self"] (defScope sDig) := ⟨rfl, rfl, rfl, by decide +kernel, rfl, by decide +kernel, by decide +kernel⟩
theorem ok_dig (T : Txt K mg A) : ∃ fd, FnOk P w K mg base CX0 2 A.fDig fd ["self"] (spDig A K) ∧ Binds K fd ["self"] [] := by
  obtain ⟨fd, F, b⟩ := T.bDig
  obtain ⟨fdA, GA, bA⟩ := ok_at (P := P) (w := w) (base := base) T
  refine ⟨fd, F.ok scDig (fun vs H Q E h => ?_) (fun cdv A' outer s H vs Q E hr h => ?_), b⟩
  · obtain ⟨r, a, p, B, rfl, _⟩ := h
    rfl
  · obtain ⟨r, a, p, B, rfl, ⟨dx, h1⟩, hs, hp, k⟩ := h
    refine ⟨_, pss_one (ps_ret (pe_and (pe_not (pe_meth0 (pv 0) T.cR T.mAt GA hr bA .nil pass0)) (pe_one (pe_chain op_le op_le (pe_num (by rfl) T.n48) (pe_ix ix_list (pe_fld (pv 0) rfl) (pe_fld (pv 0) rfl) (fun _ _ => rfl)) (pe_num (by rfl) T.n57))))), ?_⟩
    refine ⟨_, rfl, r, dx, _, rfl, h1, rf_no a p (by decide +kernel) (by decide +kernel), r, a, p, B, rfl, ⟨dx, h1⟩, hs, _, rfl, _, rfl, ?_⟩
    by_cases e : p = B.length
    · rw [decide_eq_true e]
      show Q (.bl false) H
      have n : B[p]? = none := List.getElem?_eq_none (by omega)
      rw [show sd B p = false by unfold sd; rw [n]] at k
      exact k
    · rw [decide_eq_false e]
      have hlt : p < B.length := by omega
      have g : B[p]? = some B[p] := List.getElem?_eq_getElem hlt
      rw [show sd B p = isDigit B[p] by unfold sd; rw [g], dig_int] at k
      show _
      refine ⟨_, rfl, r, A.cR, dx, _, _, rfl, h1, T.cR, T.nRs, rf_signs a p, _, rfl, r, A.cR, dx, _, _, rfl, h1, T.cR, T.nRp, rf_place a p, a, _, _, bV B[p], rfl, rfl, hs, atI_nat (by rw [List.getElem?_map, g]; rfl), _, _, rfl, rfl, _, rfl, ?_⟩
      by_cases e1 : (48 : Int) ≤ (B[p].toNat : Int)
      · rw [decide_eq_true e1] at k ⊢
        refine iteT ?_
        refine ⟨_, _, rfl, rfl, ?_⟩
        rw [Bool.true_and] at k
        exact k
      · rw [decide_eq_false e1] at k ⊢
        refine iteF ?_
        exact k
/-! ### skip -/
def spSkip (A : Adr) (K : PySem.W.Frag) : Sp := fun vs H Q E => ∃ (r a : Addr) (p : Nat) (B : Bytes) (c : UInt8), vs = [.ref r, .int (c.toNat : Int)] ∧ RdAt A H r a p ∧ SqL K H a (B.map bV) ∧ p ≤ B.length ∧
  (B[p]? = some c → ∀ H' : Hp, RdAt A H' r a (p + 1) → Keep r H H' → Q .non H') ∧ (B[p]? ≠ some c → Ex A r H E p)
theorem scSkip : FnScope ["self", "sign"] ["self", "sign"] (defScope sSkip) := ⟨rfl, rfl, rfl, by decide +kernel, rfl, by decide +kernel, by decide +kernel⟩
theorem ok_skip (T : Txt K mg A) : ∃ fd, FnOk P w K mg base (CXE P w) 3 A.fSkip fd ["self", "sign"] (spSkip A K) ∧ Binds K fd ["self", "sign"] [] := by
  obtain ⟨fd, F, b⟩ := T.bSkip
  obtain ⟨fdS, GS, bS⟩ := ok_see (P := P) (w := w) (base := base) T
  obtain ⟨fdX, GX, bX⟩ := ok_xi (P := P) (w := w) (base := base) T
  refine ⟨fd, F.okE scSkip (fun vs H Q E h => ?_) (fun cdv A' outer s H vs Q E hr h => ?_), b⟩
  · obtain ⟨r, a, p, B, c, rfl, _⟩ := h
    rfl
  · obtain ⟨r, a, p, B, c, rfl, ⟨dx, h1⟩, hs, hp, k1, k2⟩ := h
    refine ⟨_, pss_cons (ps_if (pt_not (pt_val (pe_meth (pv 0) T.cR T.mSee GS hr bS .nil pass0 (pa_cons (pv 1) pa_nil)))) (pss_one (ps_raise T.exF GX hr (by rfl) T.gF bX (pa_cons (pe_fld (pv 0) rfl) pa_nil))) pss_nil)
      (pss_one (ps_fldaug (pv 0) pe_int in_add)), ?_⟩
    refine ⟨_, rfl, r, dx, _, rfl, h1, rf_no a p (by decide +kernel) (by decide +kernel), _, rfl, r, a, p, B, c, rfl, ⟨dx, h1⟩, hs, hp, _, rfl, ?_⟩
    by_cases e : B[p]? = some c
    · rw [decide_eq_true e]
      show _
      refine ⟨_, rfl, r, A.cR, dx, _, _, rfl, h1, T.cR, T.nRp, rf_place a p, _, _, rfl, rfl, dx, _, h1, (by show 2 < 1000; decide), ?_⟩
      refine k1 e _ ⟨dx, upd_same.trans ?_⟩ fun b o q hb => by rw [upd_ne hb]; exact q
      exact congrArg (fun q => some (HO.ins A.cR dx q)) (rf_put a p (p + 1))
    · rw [decide_eq_false e]
      show _
      refine ⟨_, rfl, r, A.cR, dx, _, _, rfl, h1, T.cR, T.nRp, rf_place a p, fun ea ne => ?_⟩
      refine ⟨ea, p, rfl, upd_same, fun dx' H' e1 e2 n kx => ⟨rfl, dx', _, e1, e2, k2 e dx' _ ?_ (Keep.raised ne (Keep.refl r H) kx)⟩⟩
      rw [del_ne n]
      exact e2
/-! ### begins_number -/
def spBeg (K : PySem.W.Frag) (j : Nat) : Sp := fun vs H Q _ => ∃ (v g : Nat) (tk : Addr) (ts : List Nat), vs = [.int (v : Int), .int (g : Int), .ref tk] ∧ SqL K H tk (ts.map nV) ∧ g ≤ 65535 ∧ (v = 0 ∨ g < v * 10 ^ j) ∧
  ∀ H' : Hp, Same H H' → Q (.bl (MM.beg g ts j v)) H'
theorem scBeg : FnScope ["value", "greatest", "taken", "digit"] ["value", "greatest", "taken"] (defScope sBeg) := ⟨rfl, rfl, rfl, by decide +kernel, rfl, by decide +kernel, by decide +kernel⟩
theorem ok_beg (T : Txt K mg A) : ∃ fd, (∀ j, FnOk P w K mg base CX0 (j + 1) A.fBeg fd ["value", "greatest", "taken"] (spBeg K j)) ∧ Binds K fd ["value", "greatest", "taken"] [] ∧ PySem.W.keepIn K (.ref A.fBeg) = true := by
  obtain ⟨fd, F, b⟩ := T.bBeg
  refine ⟨fd, fun j => ?_, b, F.kp⟩
  induction j with
  | zero =>
    refine F.ok scBeg (fun vs H Q E h => ?_) (fun cdv A' outer s H vs Q E hr h => ?_)
    · obtain ⟨v, g, tk, ts, rfl, _⟩ := h
      rfl
    · obtain ⟨v, g, tk, ts, rfl, hs, hg, hv, k⟩ := h
      have k' := k H (Same.refl H)
      have e0 : MM.beg g ts 0 v = (decide (v ≤ g) && !ts.contains v) := rfl
      rw [e0] at k'
      refine ⟨_, pss_cons (ps_if (pt_cmpR op_gt (pv 0) (pv 1) (nomark _)) (pss_one (ps_ret pe_bl)) pss_nil)
        (pss_cons (ps_if (pt_cmpR op_notIn_seq (pv 0) (pv 2) (by with_unfolding_all rfl)) (pss_one (ps_ret pe_bl)) pss_nil)
        (pss_one (ps_ret (pe_and (pe_cmpR op_gt (pv 0) pe_int (nomark _)) (pe_one pe_no))))), ?_⟩
      refine ⟨_, rfl, _, rfl, _, _, rfl, rfl, _, rfl, ?_⟩
      by_cases h1 : (g : Int) < (v : Int)
      · rw [decide_eq_true h1]; refine iteT ?_
        rw [decide_eq_false (show ¬ v ≤ g by omega)] at k'
        exact k'
      · rw [decide_eq_false h1]; refine iteF ?_
        rw [decide_eq_true (show v ≤ g by omega), Bool.true_and] at k'
        refine ⟨_, rfl, _, rfl, tk, _, rfl, .inl hs, rfl, flat_nats ts, _, rfl, ?_⟩
        rw [in_nats]
        cases h2 : ts.contains v with
        | false =>
          rw [h2] at k'
          exact k'
        | true =>
          rw [h2] at k'
          have z : v = 0 := by
            rcases hv with z | z
            · exact z
            · rw [Nat.pow_zero, Nat.mul_one] at z
              omega
          subst z
          show _
          refine ⟨_, rfl, _, _, rfl, rfl, _, rfl, ?_⟩
          exact k'
  | succ j ih =>
    refine F.ok scBeg (fun vs H Q E h => ?_) (fun cdv A' outer s H vs Q E hr h => ?_)
    · obtain ⟨v, g, tk, ts, rfl, _⟩ := h
      rfl
    · obtain ⟨v, g, tk, ts, rfl, hs, hg, hv, k⟩ := h
      have e0 : MM.beg g ts (j + 1) v = (decide (v ≤ g) && (!ts.contains v || (decide (0 < v) && (List.range 10).any fun d => MM.beg g ts j (10 * v + d)))) := rfl
      refine ⟨_, pss_cons (ps_if (pt_cmpR op_gt (pv 0) (pv 1) (nomark _)) (pss_one (ps_ret pe_bl)) pss_nil)
        (pss_cons (ps_if (pt_cmpR op_notIn_seq (pv 0) (pv 2) (by with_unfolding_all rfl)) (pss_one (ps_ret pe_bl)) pss_nil)
        (pss_one (ps_ret (pe_and (pe_cmpR op_gt (pv 0) pe_int (nomark _)) (pe_one (pe_callB (cr_any rfl) (by rfl) T.any boot_any (pa_cons
          (pe_lc (own := [("digit", 3)]) rfl scBeg.nd (pi_range1 (by rfl) T.range (pa_cons pe_int pa_nil)) (blkOk_at (N := ["value", "greatest", "taken", "digit"]) (sc := defScope sBeg) (by decide +kernel)) (fun _ _ _ _ _ => pg_name (i := 3) scBeg.nd rfl (Or.inl rfl)) (fun _ _ _ _ _ => pts_nil)
            (fun _ _ _ _ _ => pe_call ih hr (by rfl) T.gBeg F.kp b .nil pass0 (pa_cons (pe_op op_add (pe_op op_mul (pv 0) pe_int) (pv 3)) (pa_cons (pv 1) (pa_cons (pv 2) pa_nil))))) pa_nil))))))), ?_⟩
      refine ⟨_, rfl, _, rfl, _, _, rfl, rfl, _, rfl, ?_⟩
      by_cases h1 : (g : Int) < (v : Int)
      · rw [decide_eq_true h1]; refine iteT ?_
        have k' := k H (Same.refl H)
        rw [e0, decide_eq_false (show ¬ v ≤ g by omega)] at k'
        exact k'
      · rw [decide_eq_false h1]; refine iteF ?_
        rw [e0, decide_eq_true (show v ≤ g by omega), Bool.true_and] at k
        refine ⟨_, rfl, _, rfl, tk, _, rfl, .inl hs, rfl, flat_nats ts, _, rfl, ?_⟩
        rw [in_nats]
        cases h2 : ts.contains v with
        | false =>
          rw [h2] at k
          exact k H (Same.refl H)
        | true =>
          rw [h2] at k
          show _
          refine ⟨_, rfl, _, _, rfl, rfl, _, rfl, ?_⟩
          by_cases h3 : (0 : Int) < (v : Int)
          · rw [decide_eq_true h3]; refine iteT ?_
            rw [decide_eq_true (show 0 < v by omega)] at k
            refine ⟨10, rfl, by decide, by decide, fun D hD => lc_range (n := 10) (fun i H' => H' D = some (.lst (((List.range i).map fun d => MM.beg g ts j (10 * v + d)).map V.bl)) ∧ Same H H') ?_ ?_ ?_⟩
            · refine ⟨upd_same, fun b o q => ?_⟩
              rw [upd_ne (ne_of_none q hD)]
              exact q
            · rintro i H' hi ⟨p1, p2⟩
              refine ⟨rfl, yesT ?_⟩
              refine ⟨_, rfl, _, _, rfl, rfl, .inl ⟨by omega, by omega⟩, _, rfl, _, _, rfl, rfl, _, rfl, _, rfl, 10 * v + i, g, tk, ts, ?_, p2.seq hs, hg, .inr ?_, fun H4 s4 => ?_⟩
              · show [V.int ((v : Int) * 10 + (0 + (i : Int))), V.int (g : Int), V.ref tk] = _
                rw [show (v : Int) * 10 + (0 + (i : Int)) = ((10 * v + i : Nat) : Int) by omega]
              · rcases hv with z | z
                · omega
                · have h' : g < v * 10 ^ j * 10 := by
                    rw [Nat.mul_assoc, ← Nat.pow_succ]
                    exact z
                  have : v * 10 ^ j * 10 ≤ (10 * v + i) * 10 ^ j := by
                    rw [Nat.mul_right_comm, Nat.mul_comm v 10]
                    exact Nat.mul_le_mul_right _ (by omega)
                  omega
              · refine ⟨_, s4 _ _ p1, ?_, ?_, fun b o q => ?_⟩
                · rw [List.length_map, List.length_map, List.length_range]
                  exact Nat.lt_of_lt_of_le hi (by show 10 ≤ sizeLine; decide)
                · rw [upd_same, List.range_succ, List.map_append, List.map_append]
                  rfl
                · rw [upd_ne (ne_of_none q hD)]
                  exact s4 _ _ (p2 _ _ q)
            · rintro H' ⟨p1, p2⟩
              refine ⟨D, (List.range 10).map fun d => MM.beg g ts j (10 * v + d), rfl, SqL.of p1, ?_⟩
              have q := k H' p2
              rw [Bool.true_and, Bool.not_true, Bool.false_or] at q
              rw [List.any_map]
              exact q
          · rw [decide_eq_false h3]; refine iteF ?_
            have q := k H (Same.refl H)
            rw [decide_eq_false (show ¬ 0 < v by omega)] at q
            exact q
/-! ### read_digit -/
def spRd (A : Adr) (K : PySem.W.Frag) : Sp := fun vs H Q E => ∃ (r a tk : Addr) (p tens g : Nat) (B : Bytes) (ts : List Nat), vs = [.ref r, .int (tens : Int), .int (g : Int), .ref tk] ∧ RdAt A H r a p ∧ SqL K H a (B.map bV) ∧ SqL K H tk (ts.map nV) ∧ p ≤ B.length ∧ g ≤ 65535 ∧
  (∀ c, B[p]? = some c → isDigit c = true → MM.begins g ts (tens + (c.toNat - 48)) = true → ∀ H' : Hp, RdAt A H' r a (p + 1) → Keep r H H' → Q (.int ((tens + (c.toNat - 48) : Nat) : Int)) H') ∧
  ((∀ c, B[p]? = some c → ¬ (isDigit c = true ∧ MM.begins g ts (tens + (c.toNat - 48)) = true)) → Ex A r H E p)
theorem scRd : FnScope ["reader", "tens", "greatest", "taken", "value"] ["reader", "tens", "greatest", "taken"] (defScope sRd) := ⟨rfl, rfl, rfl, by decide +kernel, rfl, by decide +kernel, by decide +kernel⟩
theorem ok_rd (T : Txt K mg A) : ∃ fd, FnOk P w K mg base (CXE P w) 7 A.fRd fd ["reader", "tens", "greatest", "taken"] (spRd A K) ∧ Binds K fd ["reader", "tens", "greatest", "taken"] [] ∧ PySem.W.keepIn K (.ref A.fRd) = true := by
  obtain ⟨fd, F, b⟩ := T.bRd
  obtain ⟨fdD, GD, bD⟩ := ok_dig (P := P) (w := w) (base := base) T
  obtain ⟨fdX, GX, bX⟩ := ok_xi (P := P) (w := w) (base := base) T
  obtain ⟨fdB, GB, bB, kB⟩ := ok_beg (P := P) (w := w) (base := base) T
  refine ⟨fd, F.okE scRd (fun vs H Q E h => ?_) (fun cdv A' outer s H vs Q E hr h => ?_), b, F.kp⟩
  · obtain ⟨r, a, tk, p, tens, g, B, ts, rfl, _⟩ := h
    rfl
  · obtain ⟨r, a, tk, p, tens, g, B, ts, rfl, ⟨dx, h1⟩, hs, ht, hp, hg, k1, k2⟩ := h
    refine ⟨_, pss_cons (ps_if (pt_not (pt_val (pe_meth0 (pv 0) T.cR T.mDig GD (hr.mono (by decide)) bD .nil pass0))) (pss_one (ps_raise T.exF GX (hr.mono (by decide)) (by rfl) T.gF bX (pa_cons (pe_fld (pv 0) rfl) pa_nil))) pss_nil)
      (pss_cons (ps_set (i := 4) scRd.nd rfl (Or.inl rfl) (pe_op op_sub (pe_op op_add (pv 1) (pe_ix ix_list (pe_fld (pv 0) rfl) (pe_fld (pv 0) rfl) (fun _ _ => rfl))) (pe_num (by rfl) T.n48)))
      (pss_cons (ps_if (pt_not (pt_val (pe_call (GB 5) hr (by rfl) T.gBeg kB bB .nil pass0 (pa_cons (pv 4) (pa_cons (pv 2) (pa_cons (pv 3) pa_nil)))))) (pss_one (ps_raise T.exF GX (hr.mono (by decide)) (by rfl) T.gF bX (pa_cons (pe_fld (pv 0) rfl) pa_nil))) pss_nil)
      (pss_cons (ps_fldaug (pv 0) pe_int in_add)
      (pss_one (ps_ret (pv 4)))))), ?_⟩
    refine ⟨_, rfl, r, dx, _, rfl, h1, rf_no a p (by decide +kernel) (by decide +kernel), r, a, p, B, rfl, ⟨dx, h1⟩, hs, hp, _, rfl, ?_⟩
    by_cases e : sd B p = true
    · obtain ⟨c, hc, hd⟩ : ∃ c, B[p]? = some c ∧ isDigit c = true := by
        unfold sd at e
        cases q : B[p]? with
        | none =>
          rw [q] at e
          cases e
        | some c =>
          rw [q] at e
          exact ⟨c, rfl, e⟩
      have hd' := hd
      rw [dig_int, Bool.and_eq_true, decide_eq_true_eq, decide_eq_true_eq] at hd'
      have ev : (tens : Int) + (c.toNat : Int) - 48 = ((tens + (c.toNat - 48) : Nat) : Int) := by omega
      rw [e]
      show _
      refine ⟨_, rfl, _, rfl, r, A.cR, dx, _, _, rfl, h1, T.cR, T.nRs, rf_signs a p, _, rfl, r, A.cR, dx, _, _, rfl, h1, T.cR, T.nRp, rf_place a p, a, _, _, bV c, rfl, rfl, hs, atI_nat (by rw [List.getElem?_map, hc]; rfl), _, _, rfl, rfl, _, _, rfl, rfl, ?_⟩
      dsimp only
      rw [ev]
      refine ⟨_, rfl, _, rfl, _, rfl, tens + (c.toNat - 48), g, tk, ts, rfl, ht, hg, ?_, fun H2 s2 => ⟨_, rfl, ?_⟩⟩
      · by_cases z : tens + (c.toNat - 48) = 0
        · exact .inl z
        · refine .inr ?_
          have : 1 * 10 ^ 5 ≤ (tens + (c.toNat - 48)) * 10 ^ 5 := Nat.mul_le_mul_right _ (by omega)
          omega
      · have h2 := s2 _ _ h1
        by_cases e2 : MM.begins g ts (tens + (c.toNat - 48)) = true
        · have e3 : MM.beg g ts 5 (tens + (c.toNat - 48)) = true := e2
          rw [e3]
          show _
          refine ⟨_, rfl, r, A.cR, dx, _, _, rfl, h2, T.cR, T.nRp, rf_place a p, _, _, rfl, rfl, dx, _, h2, (by show 2 < 1000; decide), ?_⟩
          refine ⟨_, rfl, ?_⟩
          refine k1 c hc hd e2 _ ⟨dx, upd_same.trans ?_⟩ fun b o q hb => by rw [upd_ne hb]; exact s2 _ _ q
          exact congrArg (fun q => some (HO.ins A.cR dx q)) (rf_put a p (p + 1))
        · have e3 : MM.beg g ts 5 (tens + (c.toNat - 48)) = false := by
            cases z : MM.beg g ts 5 (tens + (c.toNat - 48)) with
            | false => rfl
            | true => exact absurd z e2
          rw [e3]
          show _
          refine ⟨_, rfl, r, A.cR, dx, _, _, rfl, h2, T.cR, T.nRp, rf_place a p, fun ea ne => ?_⟩
          refine ⟨ea, p, rfl, upd_same, fun dx' H' e1 e2' n kx => ⟨rfl, dx', _, e1, e2', k2 ?_ dx' _ ?_ (Keep.raised ne (fun b o q _ => s2 b o q) kx)⟩⟩
          · intro c' hc' z
            rw [hc] at hc'
            cases hc'
            exact e2 z.2
          · rw [del_ne n]
            exact e2'
    · have e' : sd B p = false := by
        cases z : sd B p with
        | false => rfl
        | true => exact absurd z e
      rw [e']
      show _
      refine ⟨_, rfl, r, A.cR, dx, _, _, rfl, h1, T.cR, T.nRp, rf_place a p, fun ea ne => ?_⟩
      refine ⟨ea, p, rfl, upd_same, fun dx' H' e1 e2 n kx => ⟨rfl, dx', _, e1, e2, k2 ?_ dx' _ ?_ (Keep.raised ne (Keep.refl r H) kx)⟩⟩
      · intro c hc z
        unfold sd at e'
        rw [hc] at e'
        dsimp only at e'
        rw [z.1] at e'
        cases e'
      · rw [del_ne n]
        exact e2
/-! ### read_number -/
def spRn (A : Adr) (K : PySem.W.Frag) : Sp := fun vs H Q E => ∃ (r a tk : Addr) (p g : Nat) (B : Bytes) (ts : List Nat), vs = [.ref r, .int (g : Int), .ref tk] ∧ RdAt A H r a p ∧ SqL K H a (B.map bV) ∧ SqL K H tk (ts.map nV) ∧ p ≤ B.length ∧ g ≤ 65535 ∧
  (∀ (v q : Nat), MM.numIn g ts p (B.drop p) = .ok (v, q, B.drop q) → q ≤ B.length → p < q → ∀ H' : Hp, RdAt A H' r a q → Keep r H H' → Q (.int (v : Int)) H') ∧
  (∀ q : Nat, (MM.numIn g ts p (B.drop p) = .error q ∨ ∃ v c, MM.numIn g ts p (B.drop p) = .ok (v, q, B.drop q) ∧ B[q]? = some c ∧ isDigit c = true) → Ex A r H E q)
theorem scRn : FnScope ["reader", "greatest", "taken", "value"] ["reader", "greatest", "taken"] (defScope sRn) := ⟨rfl, rfl, rfl, by decide +kernel, rfl, by decide +kernel, by decide +kernel⟩
theorem ok_rn (T : Txt K mg A) : ∃ fd, FnOk P w K mg base (CXE P w) 8 A.fRn fd ["reader", "greatest", "taken"] (spRn A K) ∧ Binds K fd ["reader", "greatest", "taken"] [] ∧ PySem.W.keepIn K (.ref A.fRn) = true := by
  obtain ⟨fd, F, b⟩ := T.bRn
  obtain ⟨fdD, GD, bD⟩ := ok_dig (P := P) (w := w) (base := base) T
  obtain ⟨fdX, GX, bX⟩ := ok_xi (P := P) (w := w) (base := base) T
  obtain ⟨fdR, GR, bR, kR⟩ := ok_rd (P := P) (w := w) (base := base) T
  refine ⟨fd, F.okE scRn (fun vs H Q E h => ?_) (fun cdv A' outer s H vs Q E hr h => ?_), b, F.kp⟩
  · obtain ⟨r, a, tk, p, g, B, ts, rfl, _⟩ := h
    rfl
  · obtain ⟨r, a, tk, p, g, B, ts, rfl, ⟨dx, h1⟩, hs, ht, hp, hg, k1, k2⟩ := h
    refine ⟨_, pss_cons (ps_set (i := 3) scRn.nd rfl (Or.inl rfl) (pe_call GR hr (by rfl) T.gRd kR bR .nil pass_up (pa_cons (pv 0) (pa_cons pe_int (pa_cons (pv 1) (pa_cons (pv 2) pa_nil))))))
      (pss_cons (ps_while pass_own (pw_and (pt_cmpR op_gt (pv 3) pe_int (nomark _)) (pw_and1 (pt_val (pe_meth0 (pv 0) T.cR T.mDig GD (hr.mono (by decide)) bD .nil pass0)))).pt
        (pss_one (ps_set (i := 3) scRn.nd rfl (Or.inl rfl) (pe_call GR hr (by rfl) T.gRd kR bR .nil pass_up (pa_cons (pv 0) (pa_cons (pe_op op_mul (pv 3) pe_int) (pa_cons (pv 1) (pa_cons (pv 2) pa_nil))))))))
      (pss_cons (ps_if (pt_cmpR op_in_seq (pv 3) (pv 2) (by with_unfolding_all rfl)) (pss_one (ps_raise T.exF GX (hr.mono (by decide)) (by rfl) T.gF bX (pa_cons (pe_fld (pv 0) rfl) pa_nil))) pss_nil)
      (pss_one (ps_ret (pv 3))))), ?_⟩
    -- the first figure
    refine ⟨_, rfl, _, rfl, _, rfl, r, a, tk, p, 0, g, B, ts, rfl, ⟨dx, h1⟩, hs, ht, hp, hg, fun c hc hd hb H1 r1 kp1 => ?_, fun no => ?_⟩
    · rw [Nat.zero_add] at hb
      have e1 : MM.numIn g ts p (B.drop p) = MM.fin g ts (p + 1) 8 (c.toNat - 48) (B.drop (p + 1)) := by
        rw [MM.drop_at hc]
        exact MM.num_first hd hb
      have hpl : p + 1 ≤ B.length := (List.getElem?_eq_some_iff.mp hc).1
      -- more figures
      refine ⟨fun m σ H2 => ∃ (v q f : Nat), σ = [some (.ref r), some (.int (g : Int)), some (.ref tk), some (.int (v : Int))] ∧ RdAt A H2 r a q ∧ Keep r H H2 ∧ q ≤ B.length ∧ p < q ∧ v ≤ g ∧ (v = 0 ∨ g < v * 10 ^ f) ∧
          MM.numIn g ts p (B.drop p) = MM.fin g ts q f v (B.drop q) ∧ m = B.length - q, ⟨B.length - (p + 1), c.toNat - 48, p + 1, 8, ?_, r1, kp1, hpl, by omega, MM.begins_le hb, ?_, e1, rfl⟩, ?_⟩
      · rw [Nat.zero_add]
        rfl
      · by_cases z : c.toNat - 48 = 0
        · exact .inl z
        · refine .inr ?_
          have : 1 * 10 ^ 8 ≤ (c.toNat - 48) * 10 ^ 8 := Nat.mul_le_mul_right _ (by omega)
          omega
      · rintro m σ H2 ⟨v, q, f, rfl, ⟨dx2, r2⟩, kp2, hq, hpq, hvg, hf, e2, rfl⟩
        have hs2 := Keep.seq h1 kp2 hs
        have ht2 := Keep.seq h1 kp2 ht
        -- behind the loop
        have done : (∀ c', B[q]? = some c' → ¬ (isDigit c' = true ∧ v ≠ 0 ∧ MM.begins g ts (10 * v + (c'.toNat - 48)) = true)) → (v = 0 ∨ sd B q = false) →
            (tSeq (tIfS (tTest (tOp (rIn K false) (tVar 3) (tVar 2))) (tRaise A.cF (spXI A) E (tCons (tFld K (tVar 0) "place") tNil)) tNext) (tRet (tVar 3))) { nx := fun _ H' => Q .non H', rt := Q } [some (.ref r), some (.int (g : Int)), some (.ref tk), some (.int (v : Int))] H2 := by
          intro st _
          have e3 : MM.numIn g ts p (B.drop p) = if (decide (v ≤ g) && !ts.contains v) = true then .ok (v, q, B.drop q) else .error q := by
            rw [e2]
            refine MM.fin_stop fun c' rr hb' => ?_
            have hc' : B[q]? = some c' := by
              have : (B.drop q)[0]? = some c' := by
                rw [hb']
                rfl
              rw [List.getElem?_drop] at this
              exact this
            exact st c' hc'
          rw [decide_eq_true hvg, Bool.true_and] at e3
          refine ⟨_, rfl, _, rfl, tk, _, rfl, .inl ht2, rfl, flat_nats ts, _, rfl, ?_⟩
          rw [in_nats]
          cases h2 : ts.contains v with
          | true =>
            rw [h2, if_neg (by decide)] at e3
            show _
            refine ⟨_, rfl, r, A.cR, dx2, _, _, rfl, r2, T.cR, T.nRp, rf_place a q, fun ea ne => ?_⟩
            refine ⟨ea, q, rfl, upd_same, fun dx' H' e1 e2' n kx => ⟨rfl, dx', _, e1, e2', k2 q (.inl e3) dx' _ ?_ (Keep.raised ne kp2 kx)⟩⟩
            rw [del_ne n]
            exact e2'
          | false =>
            rw [h2, if_pos (by decide)] at e3
            show _
            refine ⟨_, rfl, ?_⟩
            exact k1 v q e3 hq hpq H2 ⟨dx2, r2⟩ kp2
        refine ⟨_, rfl, _, _, rfl, rfl, _, rfl, ?_⟩
        by_cases hv : (0 : Int) < (v : Int)
        · rw [decide_eq_true hv]; refine iteT ?_
          refine ⟨_, rfl, r, dx2, _, rfl, r2, rf_no a q (by decide +kernel) (by decide +kernel), r, a, q, B, rfl, ⟨dx2, r2⟩, hs2, hq, _, rfl, ?_⟩
          cases hd2 : sd B q with
          | false =>
            refine iteF ?_
            refine done (fun c' hc' z => ?_) (.inr hd2)
            unfold sd at hd2
            rw [hc'] at hd2
            dsimp only at hd2
            rw [z.1] at hd2
            cases hd2
          | true =>
            refine iteT ?_
            obtain ⟨c', hc', hd'⟩ : ∃ c, B[q]? = some c ∧ isDigit c = true := by
              unfold sd at hd2
              cases z : B[q]? with
              | none =>
                rw [z] at hd2
                cases hd2
              | some c =>
                rw [z] at hd2
                exact ⟨c, rfl, hd2⟩
            have hgf : g < v * 10 ^ f := hf.resolve_left (by omega)
            refine ⟨fun σ' H' => ∃ m', m' < B.length - q ∧ ∃ (v q f : Nat), σ' = [some (.ref r), some (.int (g : Int)), some (.ref tk), some (.int (v : Int))] ∧ RdAt A H' r a q ∧ Keep r H H' ∧ q ≤ B.length ∧ p < q ∧ v ≤ g ∧ (v = 0 ∨ g < v * 10 ^ f) ∧
              MM.numIn g ts p (B.drop p) = MM.fin g ts q f v (B.drop q) ∧ m' = B.length - q, fun σ' H' z => z, ?_⟩
            refine ⟨_, rfl, _, rfl, _, _, rfl, rfl, .inl ⟨by omega, by omega⟩, _, rfl, _, rfl, r, a, tk, q, v * 10, g, B, ts, ?_, ⟨dx2, r2⟩, hs2, ht2, hq, hg, fun c2 hc2 hd3 hb2 H3 r3 kp3 => ?_, fun no => ?_⟩
            · show [V.ref r, V.int ((v : Int) * 10), V.int (g : Int), V.ref tk] = _
              rw [show (v : Int) * 10 = ((v * 10 : Nat) : Int) by omega]
            · rw [hc'] at hc2
              cases hc2
              rw [Nat.mul_comm v 10] at hb2
              obtain ⟨f', rfl, e4⟩ := MM.fin_step (q := q) (r := B.drop (q + 1)) hd' (show v ≠ 0 by omega) hb2 hgf
              have hql : q + 1 ≤ B.length := (List.getElem?_eq_some_iff.mp hc').1
              refine ⟨B.length - (q + 1), by omega, 10 * v + (c'.toNat - 48), q + 1, f', ?_, r3, kp2.trans kp3, hql, by omega, MM.begins_le hb2, .inr ?_, ?_, rfl⟩
              · rw [Nat.mul_comm v 10]
                rfl
              · have h' : g < v * 10 ^ f' * 10 := by
                  rw [Nat.mul_assoc, ← Nat.pow_succ]
                  exact hgf
                have : v * 10 ^ f' * 10 ≤ (10 * v + (c'.toNat - 48)) * 10 ^ f' := by
                  rw [Nat.mul_right_comm, Nat.mul_comm v 10]
                  exact Nat.mul_le_mul_right _ (by omega)
                omega
              · rw [e2, MM.drop_at hc']
                exact e4
            · refine Ex.at_ (k2 q ?_) kp2
              have e3 : MM.numIn g ts p (B.drop p) = if (decide (v ≤ g) && !ts.contains v) = true then .ok (v, q, B.drop q) else .error q := by
                rw [e2]
                refine MM.fin_stop fun c2 rr hb' z => ?_
                rw [MM.drop_at hc'] at hb'
                cases hb'
                rw [Nat.mul_comm v 10] at no
                exact no c' hc' ⟨z.1, z.2.2⟩
              by_cases z : (decide (v ≤ g) && !ts.contains v) = true
              · rw [if_pos z] at e3
                exact .inr ⟨v, c', e3, hc', hd'⟩
              · rw [if_neg z] at e3
                exact .inl e3
        · rw [decide_eq_false hv]; refine iteF ?_
          exact done (fun c' _ z => z.2.1 (by omega)) (.inl (by omega))
    · refine k2 p (.inl ?_)
      cases hc : B[p]? with
      | none =>
        rw [MM.drop_end hc]
        exact MM.num_nil
      | some c =>
        rw [MM.drop_at hc]
        refine MM.num_bad fun z => no c hc ?_
        rw [Nat.zero_add]
        exact z
/-! ### read_line -/
def numOf (g : Nat) (df : Bool) : List Nat → Nat → Bytes → In Nat := fun ns => MM.numIn g (if df = true then ns else [])
def spRl (A : Adr) (K : PySem.W.Frag) : Sp := fun vs H Q E => ∃ (r a : Addr) (p g : Nat) (df : Bool) (B : Bytes) (c : UInt8), vs = [.ref r, .int (c.toNat : Int), .int (g : Int), .bl df] ∧ RdAt A H r a p ∧ SqL K H a (B.map bV) ∧ B[p]? = some c ∧ g ≤ 65535 ∧
  (∀ (xs : List Nat) (q : Nat), MM.numsIn (numOf g df) 3 [] (p + 1) (B.drop (p + 1)) = .ok (xs, q, B.drop q) → xs.length = 3 → q ≤ B.length → p < q → ∀ (H' : Hp) (t : Addr), RdAt A H' r a q → H' t = some (.tup (xs.map nV)) → Keep r H H' → Q (.ref t) H') ∧
  (∀ q : Nat, MM.numsIn (numOf g df) 3 [] (p + 1) (B.drop (p + 1)) = .error q → Ex A r H E q)
theorem scRl : FnScope ["reader", "sign", "greatest", "differ", "numbers", "taken"] ["reader", "sign", "greatest", "differ"] (defScope sRl) := ⟨rfl, rfl, rfl, by decide +kernel, rfl, by decide +kernel, by decide +kernel⟩
theorem ok_rl (T : Txt K mg A) : ∃ fd, FnOk P w K mg base (CXE P w) 9 A.fRl fd ["reader", "sign", "greatest", "differ"] (spRl A K) ∧ Binds K fd ["reader", "sign", "greatest", "differ"] [] ∧ PySem.W.keepIn K (.ref A.fRl) = true := by
  obtain ⟨fd, F, b⟩ := T.bRl
  obtain ⟨fdK, GK, bK⟩ := ok_skip (P := P) (w := w) (base := base) T
  obtain ⟨fdN, GN, bN, kN⟩ := ok_rn (P := P) (w := w) (base := base) T
  refine ⟨fd, F.okE scRl (fun vs H Q E h => ?_) (fun cdv A' outer s H vs Q E hr h => ?_), b, F.kp⟩
  · obtain ⟨r, a, p, g, df, B, c, rfl, _⟩ := h
    rfl
  · obtain ⟨r, a, p, g, df, B, c, rfl, ⟨dx, h1⟩, hs, hc, hg, k1, k2⟩ := h
    have hpl : p < B.length := (List.getElem?_eq_some_iff.mp hc).1
    have hr3 := hr.mono (show 3 ≤ 8 by decide)
    refine ⟨_, pss_cons (ps_expr (pe_meth (pv 0) T.cR T.mSkip GK hr3 bK .nil pass_up (pa_cons (pv 1) pa_nil)))
      (pss_cons (ps_set (i := 4) scRl.nd rfl (Or.inl rfl) (pe_lst pa_nil))
      (pss_cons (ps_while pass_own (pt_cmpR op_lt (pe_callB call_len_seq (by rfl) T.len PySem.boot_len (pa_cons (pv 4) pa_nil)) pe_int (nomark _))
        (pss_cons (ps_expr (pe_meth (pv 0) T.cR T.mSkip GK hr3 bK .nil pass_up (pa_cons (pe_num (by rfl) T.nB) pa_nil)))
        (pss_cons (ps_set (i := 5) scRl.nd rfl (Or.inl rfl) (pe_ifExp (pt_val (pv 3)) (pv 4) (pe_lst pa_nil)))
        (pss_one (ps_expr (pe_bm PySem.F.plainAttrs_list PySem.F.slot_list_append PySem.F.type_list_append mt_append (pv 4) (pa_cons (pe_call GN hr (by rfl) T.gRn kN bN .nil pass_up (pa_cons (pv 0) (pa_cons (pv 2) (pa_cons (pv 5) pa_nil)))) pa_nil)))))))
      (pss_cons (ps_expr (pe_meth (pv 0) T.cR T.mSkip GK hr3 bK .nil pass_up (pa_cons (pe_num (by rfl) T.nLE) pa_nil)))
      (pss_one (ps_ret (pe_callTy call_tuple_of (by rfl) T.tuple boot_tuple (pa_cons (pv 4) pa_nil))))))), ?_⟩
    refine ⟨_, rfl, r, dx, _, rfl, h1, rf_no a p (by decide +kernel) (by decide +kernel), _, rfl, r, a, p, B, c, rfl, ⟨dx, h1⟩, hs, Nat.le_of_lt hpl, fun _ H1 r1 kp1 => ?_, fun z => absurd hc z⟩
    refine ⟨Nat.zero_le _, fun l hl => ?_⟩
    have kp2 : Keep r H (upd H1 l (.lst [])) := fun b o q n => by
      have z := kp1 b o q n
      rw [upd_ne (ne_of_none z hl)]
      exact z
    obtain ⟨dx1, r1⟩ := r1
    refine ⟨fun m σ H2 => ∃ (xs : List Nat) (q : Nat) (tk : Option V), σ = [some (.ref r), some (.int (c.toNat : Int)), some (.int (g : Int)), some (.bl df), some (.ref l), tk] ∧ H2 l = some (.lst (xs.map nV)) ∧ RdAt A H2 r a q ∧ Keep r H H2 ∧ xs.length ≤ 3 ∧ q ≤ B.length ∧ p < q ∧
        MM.numsIn (numOf g df) 3 [] (p + 1) (B.drop (p + 1)) = MM.numsIn (numOf g df) (3 - xs.length) xs q (B.drop q) ∧ m = 3 - xs.length,
      ⟨3, [], p + 1, none, rfl, upd_same, ⟨dx1, by rw [upd_ne (ne_of_none r1 hl)]; exact r1⟩, kp2, by decide, hpl, by omega, rfl, rfl⟩, ?_⟩
    rintro m σ H2 ⟨xs, q, tk, rfl, l2, ⟨dx2, r2⟩, kp2', hx, hq, hpq, e2, rfl⟩
    have hs2 := Keep.seq h1 kp2' hs
    have nlr : l ≠ r := ne_of l2 r2 (by intro z; cases z)
    refine ⟨_, rfl, l, _, rfl, .inl (SqL.of l2), _, _, rfl, rfl, _, rfl, ?_⟩
    rw [List.length_map]
    by_cases hlt : xs.length < 3
    · rw [decide_eq_true (show (xs.length : Int) < 3 by omega)]; refine iteT ?_
      obtain ⟨k, hk⟩ : ∃ k, 3 - xs.length = k + 1 := ⟨3 - xs.length - 1, by omega⟩
      rw [hk] at e2
      refine ⟨fun σ' H' => ∃ m', m' < 3 - xs.length ∧ ∃ (xs : List Nat) (q : Nat) (tk : Option V), σ' = [some (.ref r), some (.int (c.toNat : Int)), some (.int (g : Int)), some (.bl df), some (.ref l), tk] ∧ H' l = some (.lst (xs.map nV)) ∧ RdAt A H' r a q ∧ Keep r H H' ∧ xs.length ≤ 3 ∧ q ≤ B.length ∧ p < q ∧
        MM.numsIn (numOf g df) 3 [] (p + 1) (B.drop (p + 1)) = MM.numsIn (numOf g df) (3 - xs.length) xs q (B.drop q) ∧ m' = 3 - xs.length, fun σ' H' z => z, ?_⟩
      refine ⟨_, rfl, r, dx2, _, rfl, r2, rf_no a q (by decide +kernel) (by decide +kernel), r, a, q, B, 32, rfl, ⟨dx2, r2⟩, hs2, hq, fun hb H3 r3 kp3 => ?_, fun hb => Ex.at_ (k2 q ?_) kp2'⟩
      · obtain ⟨dx3, r3⟩ := r3
        have hq1 : q + 1 ≤ B.length := (List.getElem?_eq_some_iff.mp hb).1
        have l3 : H3 l = some (.lst (xs.map nV)) := kp3 _ _ l2 nlr
        have e3 : MM.numsIn (numOf g df) (k + 1) xs q (B.drop q) = (match numOf g df xs (q + 1) (B.drop (q + 1)) with
            | .error e => .error e
            | .ok (v, q', r') => MM.numsIn (numOf g df) k (xs ++ [v]) q' r') := by
          show (match Bead.byteIn 32 q (B.drop q) with
            | .error e => (Except.error e : In (List Nat))
            | .ok (_, q, r) => match numOf g df xs q r with
              | .error e => (Except.error e : In (List Nat))
              | .ok (v, q', r') => MM.numsIn (numOf g df) k (xs ++ [v]) q' r') = _
          rw [MM.byte_ok hb]
        have go : ∀ (H4 : Hp) (tka : Addr), SqL K H4 tka ((if df = true then xs else []).map nV) → Same H3 H4 →
            (tDrop (tBM K "list" rAppend (tVar 4) (tCons (tCall (spRn A K) [] E (tCons (tVar 0) (tCons (tVar 2) (tCons (tVar 5) tNil)))) tNil)))
              { nx := fun σ' H' => ∃ m', m' < 3 - xs.length ∧ ∃ (xs : List Nat) (q : Nat) (tk : Option V), σ' = [some (.ref r), some (.int (c.toNat : Int)), some (.int (g : Int)), some (.bl df), some (.ref l), tk] ∧ H' l = some (.lst (xs.map nV)) ∧ RdAt A H' r a q ∧ Keep r H H' ∧ xs.length ≤ 3 ∧ q ≤ B.length ∧ p < q ∧
                MM.numsIn (numOf g df) 3 [] (p + 1) (B.drop (p + 1)) = MM.numsIn (numOf g df) (3 - xs.length) xs q (B.drop q) ∧ m' = 3 - xs.length, rt := Q }
              [some (.ref r), some (.int (c.toNat : Int)), some (.int (g : Int)), some (.bl df), some (.ref l), some (.ref tka)] H4 := by
          intro H4 tka ht s4
          have r4 := s4 _ _ r3
          have l4 := s4 _ _ l3
          have kp4 : Keep r H H4 := fun b o q n => s4 _ _ (kp3 b o (kp2' b o q n) n)
          refine ⟨_, rfl, .inl ⟨rfl, _, SqL.of l4⟩, _, rfl, _, rfl, _, rfl, r, a, tka, q + 1, g, B, if df = true then xs else [], rfl, ⟨dx3, r4⟩, Keep.seq h1 kp4 hs, ht, hq1, hg, fun v q' ev hq' hlt' H5 r5 kp5 => ?_, fun q' hq' => Ex.at_ (k2 q' ?_) kp4⟩
          · have l5 : H5 l = some (.lst (xs.map nV)) := kp5 _ _ l4 nlr
            obtain ⟨dx5, r5⟩ := r5
            refine ⟨l, _, _, rfl, rfl, l5, ?_, ?_⟩
            · rw [List.length_map]
              exact Nat.lt_trans hlt (by show 3 < sizeLine; decide)
            · refine ⟨3 - (xs ++ [v]).length, by rw [List.length_append, List.length_singleton]; omega, xs ++ [v], q', _, rfl, ?_, ⟨dx5, ?_⟩, fun b o z n => ?_, by rw [List.length_append, List.length_singleton]; omega, hq', by omega, ?_, rfl⟩
              · rw [upd_same, List.map_append]
                rfl
              · rw [upd_ne (Ne.symm nlr)]
                exact r5
              · have z' := kp5 _ _ (kp4 b o z n) n
                have nb : b ≠ l := ne_of_none (kp1 b o z n) hl
                rw [upd_ne nb]
                exact z'
              · rw [e2, e3]
                have ev' : numOf g df xs (q + 1) (B.drop (q + 1)) = .ok (v, q', B.drop q') := ev
                rw [ev', List.length_append, List.length_singleton, show 3 - (xs.length + 1) = k by omega]
          · rw [e2, e3]
            rcases hq' with ev | ⟨v, c', ev, hc', hd'⟩
            · have ev' : numOf g df xs (q + 1) (B.drop (q + 1)) = .error q' := ev
              rw [ev']
            · have ev' : numOf g df xs (q + 1) (B.drop (q + 1)) = .ok (v, q', B.drop q') := ev
              rw [ev']
              have n10 : B[q']? ≠ some 10 := by
                intro z
                rw [hc'] at z
                cases z
                revert hd'
                decide
              have n32 : B[q']? ≠ some 32 := by
                intro z
                rw [hc'] at z
                cases z
                revert hd'
                decide
              cases k with
              | zero =>
                show (match Bead.byteIn 10 q' (B.drop q') with
                  | .error e => (Except.error e : In (List Nat))
                  | .ok (_, q, r) => (Except.ok (xs ++ [v], q, r) : In (List Nat))) = _
                rw [MM.byte_bad n10]
              | succ k =>
                show (match Bead.byteIn 32 q' (B.drop q') with
                  | .error e => (Except.error e : In (List Nat))
                  | .ok (_, q, r) => match numOf g df (xs ++ [v]) q r with
                    | .error e => (Except.error e : In (List Nat))
                    | .ok (v', q', r') => MM.numsIn (numOf g df) k (xs ++ [v] ++ [v']) q' r') = _
                rw [MM.byte_bad n32]
        refine ⟨_, rfl, _, rfl, ?_⟩
        cases df with
        | true =>
          refine iteT ?_
          exact ⟨_, rfl, go H3 l (SqL.of l3) (Same.refl _)⟩
        | false =>
          refine iteF ?_
          refine ⟨Nat.zero_le _, fun l' hl' => ?_⟩
          exact go _ l' (SqL.of upd_same) fun b o z => by rw [upd_ne (ne_of_none z hl')]; exact z
      · rw [e2]
        show (match Bead.byteIn 32 q (B.drop q) with
          | .error e => (Except.error e : In (List Nat))
          | .ok (_, q, r) => match numOf g df xs q r with
            | .error e => (Except.error e : In (List Nat))
            | .ok (v, q', r') => MM.numsIn (numOf g df) k (xs ++ [v]) q' r') = _
        rw [MM.byte_bad hb]
    · rw [decide_eq_false (show ¬ (xs.length : Int) < 3 by omega)]; refine iteF ?_
      have h3 : xs.length = 3 := by omega
      rw [h3, Nat.sub_self] at e2
      refine ⟨_, rfl, r, dx2, _, rfl, r2, rf_no a q (by decide +kernel) (by decide +kernel), r, a, q, B, 10, rfl, ⟨dx2, r2⟩, hs2, hq, fun hb H3 r3 kp3 => ?_, fun hb => Ex.at_ (k2 q ?_) kp2'⟩
      · have l3 : H3 l = some (.lst (xs.map nV)) := kp3 _ _ l2 nlr
        have hq1 : q + 1 ≤ B.length := (List.getElem?_eq_some_iff.mp hb).1
        refine ⟨_, rfl, l, _, rfl, .inl ⟨SqL.of l3, fun t ht => ?_⟩⟩
        obtain ⟨dx3, r3⟩ := r3
        refine k1 xs (q + 1) ?_ h3 hq1 (by omega) _ t ⟨dx3, by rw [upd_ne (ne_of_none r3 ht)]; exact r3⟩ upd_same fun b o z n => ?_
        · rw [e2]
          show (match Bead.byteIn 10 q (B.drop q) with
            | .error e => (Except.error e : In (List Nat))
            | .ok (_, q, r) => (Except.ok (xs, q, r) : In (List Nat))) = _
          rw [MM.byte_ok hb]
        · have z' := kp3 _ _ (kp2' b o z n) n
          rw [upd_ne (ne_of_none z' ht)]
          exact z'
      · rw [e2]
        show (match Bead.byteIn 10 q (B.drop q) with
          | .error e => (Except.error e : In (List Nat))
          | .ok (_, q, r) => (Except.ok (xs, q, r) : In (List Nat))) = _
        rw [MM.byte_bad hb]
/-! ### a mesh in the heap -/
def TupsAt (H : Hp) : List Addr → List (List Nat) → Prop
  | [], [] => True
  | a :: as, x :: xs => H a = some (.tup (x.map nV)) ∧ TupsAt H as xs
  | _, _ => False
theorem TupsAt.snoc {H : Hp} {t : Addr} {x : List Nat} (ht : H t = some (.tup (x.map nV))) : ∀ {as : List Addr} {xs : List (List Nat)}, TupsAt H as xs → TupsAt H (as ++ [t]) (xs ++ [x])
  | [], [], _ => ⟨ht, trivial⟩
  | _ :: _, _ :: _, ⟨h1, h2⟩ => ⟨h1, TupsAt.snoc ht h2⟩
  | [], _ :: _, h => h.elim
  | _ :: _, [], h => h.elim
theorem TupsAt.mono {H H' : Hp} (k : ∀ b ys, H b = some (.tup ys) → H' b = some (.tup ys)) : ∀ {as : List Addr} {xs : List (List Nat)}, TupsAt H as xs → TupsAt H' as xs
  | [], [], _ => trivial
  | _ :: _, _ :: _, ⟨h1, h2⟩ => ⟨k _ _ h1, TupsAt.mono k h2⟩
  | [], _ :: _, h => h.elim
  | _ :: _, [], h => h.elim
theorem TupsAt.len {H : Hp} : ∀ {as : List Addr} {xs : List (List Nat)}, TupsAt H as xs → as.length = xs.length
  | [], [], _ => rfl
  | _ :: _, _ :: _, ⟨_, h2⟩ => by
    rw [List.length_cons, List.length_cons, TupsAt.len h2]
  | [], _ :: _, h => h.elim
  | _ :: _, [], h => h.elim
structure MeshOf (A : Adr) (H : Hp) (m dm cl tl : Addr) (cas tas : List Addr) (cs fs : List (List Nat)) : Prop where
  ins : H m = some (.ins A.cM dm (mf cl tl))
  c : H cl = some (.lst (cas.map V.ref))
  t : H tl = some (.lst (tas.map V.ref))
  ne : cl ≠ tl
  cT : TupsAt H cas cs
  tT : TupsAt H tas fs
def MeshAt (A : Adr) (H : Hp) (m : Addr) (cs fs : List (List Nat)) : Prop := ∃ dm cl tl cas tas, MeshOf A H m dm cl tl cas tas cs fs
theorem mf_rf {c t a : Addr} {p : Nat} {C D d e : Addr} : HO.ins C d (mf c t) ≠ HO.ins D e (rf a p) := by
  intro z
  have z' : mf c t = rf a p := by
    injection z
  have q := mf_c c t
  rw [z', rf_no a p (by decide +kernel) (by decide +kernel)] at q
  cases q
theorem MeshOf.keep {H H' : Hp} {m dm cl tl r a : Addr} {p : Nat} {cas tas : List Addr} {cs fs : List (List Nat)} (M : MeshOf A H m dm cl tl cas tas cs fs) (hr : RdAt A H r a p) (k : Keep r H H') : MeshOf A H' m dm cl tl cas tas cs fs := by
  obtain ⟨dx, hr⟩ := hr
  have kt : ∀ b ys, H b = some (.tup ys) → H' b = some (.tup ys) := fun b ys e => k _ _ e (ne_of e hr (by intro z; cases z))
  exact ⟨k _ _ M.ins (ne_of M.ins hr mf_rf), k _ _ M.c (ne_of M.c hr (by intro z; cases z)), k _ _ M.t (ne_of M.t hr (by intro z; cases z)), M.ne, M.cT.mono kt, M.tT.mono kt⟩
/-! ### takes_corner, takes_triangle -/
def spTc (A : Adr) : Sp := fun vs H Q _ => ∃ (m : Addr) (cs fs : List (List Nat)), vs = [.ref m] ∧ MeshAt A H m cs fs ∧ Q (.bl (decide (cs.length < 64) && decide (fs.length = 0))) H
theorem scTc : FnScope ["mesh"] ["mesh"] (defScope sTc) := ⟨rfl, rfl, rfl, by decide +kernel, rfl, by decide +kernel, by decide +kernel⟩
theorem ok_tc (T : Txt K mg A) : ∃ fd, FnOk P w K mg base CX0 1 A.fTc fd ["mesh"] (spTc A) ∧ Binds K fd ["mesh"] [] ∧ PySem.W.keepIn K (.ref A.fTc) = true := by
  obtain ⟨fd, F, b⟩ := T.bTc
  refine ⟨fd, F.ok scTc (fun vs H Q E h => ?_) (fun cdv A' outer s H vs Q E hr h => ?_), b, F.kp⟩
  · obtain ⟨m, cs, fs, rfl, _⟩ := h
    rfl
  · obtain ⟨m, cs, fs, rfl, ⟨dm, cl, tl, cas, tas, M⟩, k⟩ := h
    refine ⟨_, pss_one (ps_ret (pe_and (pe_cmpR op_lt (pe_callB call_len_seq (by rfl) T.len PySem.boot_len (pa_cons (pe_fld (pv 0) rfl) pa_nil)) (pe_num (by rfl) T.n64) (nomark _))
      (pe_one (pe_cmp (pc_eqI (pe_callB call_len_seq (by rfl) T.len PySem.boot_len (pa_cons (pe_fld (pv 0) rfl) pa_nil)) pe_int))))), ?_⟩
    refine ⟨_, rfl, m, A.cM, dm, _, _, rfl, M.ins, T.cM, T.nMc, mf_c cl tl, cl, _, rfl, .inl (SqL.of M.c), _, _, rfl, rfl, _, rfl, ?_⟩
    have e1 : decide (((cas.map V.ref).length : Int) < 64) = decide (cs.length < 64) := by
      rw [List.length_map, M.cT.len, decide_eq_decide]
      omega
    have e2 : decide (((tas.map V.ref).length : Int) = 0) = decide (fs.length = 0) := by
      rw [List.length_map, M.tT.len, decide_eq_decide]
      omega
    rw [e1]
    cases h1 : decide (cs.length < 64) with
    | false =>
      refine iteF ?_
      rw [h1] at k
      exact k
    | true =>
      refine iteT ?_
      rw [h1, Bool.true_and] at k
      refine ⟨_, rfl, m, A.cM, dm, _, _, rfl, M.ins, T.cM, T.nMt, mf_t cl tl, tl, _, rfl, .inl (SqL.of M.t), _, _, rfl, rfl, ?_⟩
      show Q (.bl (decide (((tas.map V.ref).length : Int) = 0))) H
      rw [e2]
      exact k
def spTt (A : Adr) : Sp := fun vs H Q _ => ∃ (m : Addr) (cs fs : List (List Nat)), vs = [.ref m] ∧ MeshAt A H m cs fs ∧ Q (.bl (decide (3 ≤ cs.length) && decide (fs.length < 128))) H
theorem scTt : FnScope ["mesh"] ["mesh"] (defScope sTt) := ⟨rfl, rfl, rfl, by decide +kernel, rfl, by decide +kernel, by decide +kernel⟩
theorem ok_tt (T : Txt K mg A) : ∃ fd, FnOk P w K mg base CX0 1 A.fTt fd ["mesh"] (spTt A) ∧ Binds K fd ["mesh"] [] ∧ PySem.W.keepIn K (.ref A.fTt) = true := by
  obtain ⟨fd, F, b⟩ := T.bTt
  refine ⟨fd, F.ok scTt (fun vs H Q E h => ?_) (fun cdv A' outer s H vs Q E hr h => ?_), b, F.kp⟩
  · obtain ⟨m, cs, fs, rfl, _⟩ := h
    rfl
  · obtain ⟨m, cs, fs, rfl, ⟨dm, cl, tl, cas, tas, M⟩, k⟩ := h
    refine ⟨_, pss_one (ps_ret (pe_and (pe_cmpR op_ge (pe_callB call_len_seq (by rfl) T.len PySem.boot_len (pa_cons (pe_fld (pv 0) rfl) pa_nil)) pe_int (nomark _))
      (pe_one (pe_cmpR op_lt (pe_callB call_len_seq (by rfl) T.len PySem.boot_len (pa_cons (pe_fld (pv 0) rfl) pa_nil)) (pe_num (by rfl) T.n128) (nomark _))))), ?_⟩
    refine ⟨_, rfl, m, A.cM, dm, _, _, rfl, M.ins, T.cM, T.nMc, mf_c cl tl, cl, _, rfl, .inl (SqL.of M.c), _, _, rfl, rfl, _, rfl, ?_⟩
    have e1 : decide ((3 : Int) ≤ ((cas.map V.ref).length : Int)) = decide (3 ≤ cs.length) := by
      rw [List.length_map, M.cT.len, decide_eq_decide]
      omega
    have e2 : decide (((tas.map V.ref).length : Int) < 128) = decide (fs.length < 128) := by
      rw [List.length_map, M.tT.len, decide_eq_decide]
      omega
    rw [e1]
    cases h1 : decide (3 ≤ cs.length) with
    | false =>
      refine iteF ?_
      rw [h1] at k
      exact k
    | true =>
      refine iteT ?_
      rw [h1, Bool.true_and] at k
      refine ⟨_, rfl, m, A.cM, dm, _, _, rfl, M.ins, T.cM, T.nMt, mf_t cl tl, tl, _, rfl, .inl (SqL.of M.t), _, _, rfl, rfl, ?_⟩
      show Q (.bl (decide (((tas.map V.ref).length : Int) < 128))) H
      rw [e2]
      exact k
/-! ### read_mesh -/
def spRm (A : Adr) (K : PySem.W.Frag) : Sp := fun vs H Q E => ∃ (a : Addr) (B : Bytes), vs = [.ref a] ∧ SqL K H a (B.map bV) ∧
  (∀ (cs fs : List (List Nat)), Bead.readMesh B = .ok ⟨cs.map MM.cornerOf, fs.map MM.faceOf⟩ → (∀ x ∈ cs, x.length = 3) → (∀ x ∈ fs, x.length = 3) → cs.length ≤ 64 → fs.length ≤ 128 → ∀ (H' : Hp) (m : Addr), MeshAt A H' m cs fs → Same H H' → Q (.ref m) H') ∧
  (∀ q : Nat, Bead.readMesh B = .error q → ExM A H E q)
theorem scRm : FnScope ["signs", "mesh", "reader"] ["signs"] (defScope sRm) := ⟨rfl, rfl, rfl, by decide +kernel, rfl, by decide +kernel, by decide +kernel⟩
theorem ok_rm (T : Txt K mg A) : ∃ fd, FnOk P w K mg base (CXE P w) 10 A.fRm fd ["signs"] (spRm A K) ∧ Binds K fd ["signs"] [] ∧ PySem.W.keepIn K (.ref A.fRm) = true := by
  obtain ⟨fd, F, b⟩ := T.bRm
  obtain ⟨fdM, GM, bM⟩ := ok_mi (P := P) (w := w) (base := base) T
  obtain ⟨fdI, GI, bI⟩ := ok_ri (P := P) (w := w) (base := base) T
  obtain ⟨fdA, GA, bA⟩ := ok_at (P := P) (w := w) (base := base) T
  obtain ⟨fdS, GS, bS⟩ := ok_see (P := P) (w := w) (base := base) T
  obtain ⟨fdC, GC, bC, kC⟩ := ok_tc (P := P) (w := w) (base := base) T
  obtain ⟨fdT, GT, bT, kT⟩ := ok_tt (P := P) (w := w) (base := base) T
  obtain ⟨fdX, GX, bX⟩ := ok_xi (P := P) (w := w) (base := base) T
  obtain ⟨fdL, GL, bL, kL⟩ := ok_rl (P := P) (w := w) (base := base) T
  refine ⟨fd, F.okE scRm (fun vs H Q E h => ?_) (fun cdv A' outer s H vs Q E hr h => ?_), b, F.kp⟩
  · obtain ⟨a, B, rfl, _⟩ := h
    rfl
  · obtain ⟨a, B, rfl, hs, k1, k2⟩ := h
    have hr2 := hr.mono (show 2 ≤ 9 by decide)
    have hr1 := hr.mono (show 1 ≤ 9 by decide)
    refine ⟨_, pss_cons (ps_set (i := 1) scRm.nd rfl (Or.inl rfl) (pe_make T.mkM GM hr2 (by rfl) T.gM bM .nil pass0 (pa_cons (pe_lst pa_nil) (pa_cons (pe_lst pa_nil) pa_nil))))
      (pss_cons (ps_set (i := 2) scRm.nd rfl (Or.inl rfl) (pe_make T.mkR GI hr2 (by rfl) T.gR bI .nil pass0 (pa_cons (pv 0) pa_nil)))
      (pss_cons (ps_while pass_own (pt_not (pt_val (pe_meth0 (pv 2) T.cR T.mAt GA hr1 bA .nil pass0)))
        (pss_one (ps_if (pw_and (pt_val (pe_meth (pv 2) T.cR T.mSee GS hr2 bS .nil pass0 (pa_cons (pe_num (by rfl) T.nC) pa_nil))) (pw_and1 (pt_val (pe_call GC hr1 (by rfl) T.gTc kC bC .nil pass0 (pa_cons (pv 1) pa_nil))))).pt
          (pss_one (ps_expr (pe_bm PySem.F.plainAttrs_list PySem.F.slot_list_append PySem.F.type_list_append mt_append (pe_fld (pv 1) rfl) (pa_cons (pe_call GL hr (by rfl) T.gRl kL bL .nil pass_up (pa_cons (pv 2) (pa_cons (pe_num (by rfl) T.nC) (pa_cons (pe_num (by rfl) T.nG) (pa_cons pe_bl pa_nil))))) pa_nil))))
          (pss_one (ps_if (pw_and (pt_val (pe_meth (pv 2) T.cR T.mSee GS hr2 bS .nil pass0 (pa_cons (pe_num (by rfl) T.nT) pa_nil))) (pw_and1 (pt_val (pe_call GT hr1 (by rfl) T.gTt kT bT .nil pass0 (pa_cons (pv 1) pa_nil))))).pt
            (pss_one (ps_expr (pe_bm PySem.F.plainAttrs_list PySem.F.slot_list_append PySem.F.type_list_append mt_append (pe_fld (pv 1) rfl) (pa_cons (pe_call GL hr (by rfl) T.gRl kL bL .nil pass_up (pa_cons (pv 2) (pa_cons (pe_num (by rfl) T.nT)
              (pa_cons (pe_op op_sub (pe_callB call_len_seq (by rfl) T.len PySem.boot_len (pa_cons (pe_fld (pv 1) rfl) pa_nil)) pe_int) (pa_cons pe_bl pa_nil))))) pa_nil))))
            (pss_one (ps_raise T.exF GX hr2 (by rfl) T.gF bX (pa_cons (pe_fld (pv 2) rfl) pa_nil))))))))
      (pss_one (ps_ret (pv 1))))), ?_⟩
    -- mesh = Mesh([], [])
    refine ⟨Nat.zero_le _, fun cl hcl => ⟨Nat.zero_le _, fun tl htl => ?_⟩⟩
    intro x0 d0 n0 m0 e0
    refine ⟨x0, d0, cl, tl, rfl, upd_same, fun H1 i1 kp1 => ⟨rfl, ?_⟩⟩
    have s0 : Same H (upd (upd H cl (.lst [])) tl (.lst [])) := fun b o q => by
      have q1 : upd H cl (.lst []) b = some o := by rw [upd_ne (ne_of_none q hcl)]; exact q
      rw [upd_ne (ne_of_none q1 htl)]
      exact q1
    have s1 : Same (upd (upd H cl (.lst [])) tl (.lst [])) H1 := Same.made n0 m0 kp1
    have ct : cl ≠ tl := ne_of_none (upd_same : upd H cl (.lst []) cl = _) htl
    have c1 : H1 cl = some (.lst (([] : List Addr).map V.ref)) := s1 _ _ (by rw [upd_ne ct]; exact upd_same)
    have t1 : H1 tl = some (.lst (([] : List Addr).map V.ref)) := s1 _ _ upd_same
    -- reader = Reader(signs)
    refine ⟨_, rfl, ?_⟩
    intro x2 d2 n2 m2 e2
    refine ⟨x2, d2, a, rfl, upd_same, fun H2 r2 kp2 => ⟨rfl, ?_⟩⟩
    have s2 : Same H1 H2 := Same.made n2 m2 kp2
    have s02 : Same H H2 := (s0.trans s1).trans s2
    refine ⟨fun μ σ H3 => ∃ (cas tas : List Addr) (cs fs : List (List Nat)) (q f : Nat), σ = [some (.ref a), some (.ref x0), some (.ref x2)] ∧ MeshOf A H3 x0 d0 cl tl cas tas cs fs ∧ RdAt A H3 x2 a q ∧ Same H H3 ∧ q ≤ B.length ∧ B.length - q < f ∧
        (∀ x ∈ cs, x.length = 3) ∧ (∀ x ∈ fs, x.length = 3) ∧ cs.length ≤ 64 ∧ fs.length ≤ 128 ∧ Bead.readMesh B = Bead.meshFrom f q (cs.map MM.cornerOf).reverse (fs.map MM.faceOf).reverse (B.drop q) ∧ μ = B.length - q,
      ⟨B.length - 0, [], [], [], [], 0, B.length + 1, rfl, ⟨s2 _ _ i1, s2 _ _ c1, s2 _ _ t1, ct, trivial, trivial⟩, r2, s02, Nat.zero_le _, by omega, (by intro x hx; cases hx), (by intro x hx; cases hx), Nat.zero_le _, Nat.zero_le _, rfl, rfl⟩, ?_⟩
    rintro μ σ H3 ⟨cas, tas, cs, fs, q, f, rfl, M, ⟨dx, r3⟩, s3, hq, hf, hc3, hf3, hc64, hf128, e3, rfl⟩
    have hs3 := s3.seq hs
    have RM : MeshAt A H3 x0 cs fs := ⟨d0, cl, tl, cas, tas, M⟩
    refine ⟨_, rfl, x2, dx, _, rfl, r3, rf_no a q (by decide +kernel) (by decide +kernel), x2, a, q, B, rfl, ⟨dx, r3⟩, hs3, _, rfl, ?_⟩
    obtain ⟨f', rfl⟩ : ∃ f', f = f' + 1 := ⟨f - 1, by omega⟩
    by_cases hend : q = B.length
    · rw [decide_eq_true hend]
      show _
      refine ⟨_, rfl, ?_⟩
      refine k1 cs fs ?_ hc3 hf3 hc64 hf128 H3 x0 RM s3
      rw [e3, hend, List.drop_length, MM.mesh_end, List.reverse_reverse, List.reverse_reverse]
    · rw [decide_eq_false hend]
      have hlt : q < B.length := by omega
      obtain ⟨c, hc⟩ : ∃ c, B[q]? = some c := ⟨_, List.getElem?_eq_getElem hlt⟩
      show _
      refine ⟨fun σ' H' => ∃ μ', μ' < B.length - q ∧ ∃ (cas tas : List Addr) (cs fs : List (List Nat)) (q f : Nat), σ' = [some (.ref a), some (.ref x0), some (.ref x2)] ∧ MeshOf A H' x0 d0 cl tl cas tas cs fs ∧ RdAt A H' x2 a q ∧ Same H H' ∧ q ≤ B.length ∧ B.length - q < f ∧
        (∀ x ∈ cs, x.length = 3) ∧ (∀ x ∈ fs, x.length = 3) ∧ cs.length ≤ 64 ∧ fs.length ≤ 128 ∧ Bead.readMesh B = Bead.meshFrom f q (cs.map MM.cornerOf).reverse (fs.map MM.faceOf).reverse (B.drop q) ∧ μ' = B.length - q, fun σ' H' z => z, ?_⟩
      have kq : Keep x2 H3 H3 := Keep.refl _ _
      have hx2 : H x2 = none := by
        cases z : H x2 with
        | none => rfl
        | some o =>
          have z' := (s0.trans s1) _ _ z
          rw [n2] at z'
          cases z'
      have up : ∀ {H4 : Hp}, Keep x2 H3 H4 → Same H H4 := fun {H4} k b o z => k b o (s3 b o z) (ne_of_none z hx2)
      -- where neither line may stand
      have bad : ¬ (c = 118 ∧ (fs.map MM.faceOf).reverse = [] ∧ (cs.map MM.cornerOf).reverse.length < 64) → ¬ (c = 116 ∧ 3 ≤ (cs.map MM.cornerOf).reverse.length ∧ (fs.map MM.faceOf).reverse.length < 128) → Bead.readMesh B = .error q := fun z1 z2 => by
        rw [e3, MM.drop_at hc]
        exact MM.mesh_bad z1 z2
      have lc : (cs.map MM.cornerOf).reverse.length = cs.length := by rw [List.length_reverse, List.length_map]
      have lf : (fs.map MM.faceOf).reverse.length = fs.length := by rw [List.length_reverse, List.length_map]
      have fnil : ((fs.map MM.faceOf).reverse = []) ↔ fs.length = 0 := by
        rw [← lf, List.length_eq_zero_iff]
      -- the second test
      have second : ¬ (c = 118 ∧ cs.length < 64 ∧ fs.length = 0) →
          (tIfS (tAnd (tB (tMeth A.cR "sees" (spSee A K) [] E0 (tVar 2) (tCons (tC (.int 116)) tNil))) (tB (tCall (spTt A) [] E0 (tCons (tVar 1) tNil))))
            (tDrop (tBM K "list" rAppend (tFld K (tVar 1) "triangles") (tCons (tCall (spRl A K) [] E (tCons (tVar 2) (tCons (tC (.int 116)) (tCons (tOp (rI0 fun i j => .int (i - j)) (tCB (fun xs H Q => ∃ p ys, xs = [.ref p] ∧ (SqL K H p ys ∨ SqT K H p ys) ∧ Q (.int ys.length) H) (tCons (tFld K (tVar 1) "corners") tNil)) (tC (.int 1))) (tCons (tC (.bl true)) tNil))))) tNil)))
            (tRaise A.cF (spXI A) E (tCons (tFld K (tVar 2) "place") tNil)))
            { nx := fun σ' H' => ∃ μ', μ' < B.length - q ∧ ∃ (cas tas : List Addr) (cs fs : List (List Nat)) (q f : Nat), σ' = [some (.ref a), some (.ref x0), some (.ref x2)] ∧ MeshOf A H' x0 d0 cl tl cas tas cs fs ∧ RdAt A H' x2 a q ∧ Same H H' ∧ q ≤ B.length ∧ B.length - q < f ∧
              (∀ x ∈ cs, x.length = 3) ∧ (∀ x ∈ fs, x.length = 3) ∧ cs.length ≤ 64 ∧ fs.length ≤ 128 ∧ Bead.readMesh B = Bead.meshFrom f q (cs.map MM.cornerOf).reverse (fs.map MM.faceOf).reverse (B.drop q) ∧ μ' = B.length - q, rt := Q }
            [some (.ref a), some (.ref x0), some (.ref x2)] H3 := by
        intro no1
        have raise : ¬ (c = 116 ∧ 3 ≤ cs.length ∧ fs.length < 128) → (tRaise A.cF (spXI A) E (tCons (tFld K (tVar 2) "place") tNil)) { nx := fun _ _ => False, rt := Q } [some (.ref a), some (.ref x0), some (.ref x2)] H3 := by
          intro no2
          refine ⟨_, rfl, x2, A.cR, dx, _, _, rfl, r3, T.cR, T.nRp, rf_place a q, fun ea ne => ?_⟩
          refine ⟨ea, q, rfl, upd_same, fun dx' H' e1 e2 n kx => ⟨rfl, dx', _, e1, e2, k2 q (bad ?_ ?_) dx' _ ?_ (Same.raised ne s3 kx)⟩⟩
          · rintro ⟨z1, z2, z3⟩
            exact no1 ⟨z1, by omega, fnil.mp z2⟩
          · rintro ⟨z1, z2, z3⟩
            exact no2 ⟨z1, by omega, by omega⟩
          · rw [del_ne n]
            exact e2
        refine ⟨_, rfl, x2, dx, _, rfl, r3, rf_no a q (by decide +kernel) (by decide +kernel), x2, a, q, B, 116, rfl, ⟨dx, r3⟩, hs3, hq, _, rfl, ?_⟩
        by_cases h116 : B[q]? = some 116
        · have e116 : c = 116 := by
            rw [hc] at h116
            exact Option.some.inj h116
          rw [decide_eq_true h116]; refine iteT ?_
          refine ⟨_, rfl, x0, cs, fs, rfl, RM, _, rfl, ?_⟩
          by_cases h2 : 3 ≤ cs.length ∧ fs.length < 128
          · rw [decide_eq_true h2.1, decide_eq_true h2.2]
            show _
            have hg : ((cas.map V.ref).length : Int) - 1 = ((cs.length - 1 : Nat) : Int) := by
              rw [List.length_map, M.cT.len]
              omega
            refine ⟨_, rfl, x0, A.cM, d0, _, _, rfl, M.ins, T.cM, T.nMt, mf_t cl tl, .inl ⟨rfl, _, SqL.of M.t⟩, _, rfl, _, rfl, x0, A.cM, d0, _, _, rfl, M.ins, T.cM, T.nMc, mf_c cl tl, cl, _, rfl, .inl (SqL.of M.c), _, _, rfl, rfl, ?_⟩
            refine ⟨x2, a, q, cs.length - 1, true, B, 116, ?_, ⟨dx, r3⟩, hs3, h116, by omega, fun xs q' ex h3 hq' hqq H4 t r4 ht kp4 => ?_, fun q' ex dxx Hx hxx kxx => k2 q' ?_ dxx Hx hxx (up kxx)⟩
            · show [V.ref x2, V.int 116, V.int (((cas.map V.ref).length : Int) - 1), V.bl true] = _
              rw [hg]
              rfl
            · have M4 := M.keep ⟨dx, r3⟩ kp4
              obtain ⟨dx4, r4⟩ := r4
              refine ⟨tl, _, _, rfl, rfl, M4.t, ?_, ?_⟩
              · rw [List.length_map, M.tT.len]
                exact Nat.lt_trans h2.2 (by show 128 < sizeLine; decide)
              · have nt : ∀ {b o}, H4 b = some o → (∀ xs, o ≠ .lst xs) → b ≠ tl := fun z d => ne_of z M4.t (d _)
                have kt : ∀ b ys, H4 b = some (.tup ys) → upd H4 tl (.lst (tas.map V.ref ++ [.ref t])) b = some (.tup ys) := fun b ys z => by
                  rw [upd_ne (nt z (by intro xs z; cases z))]
                  exact z
                refine ⟨B.length - q', by omega, cas, tas ++ [t], cs, fs ++ [xs], q', f', rfl, ⟨?_, ?_, ?_, M.ne, M4.cT.mono kt, TupsAt.snoc (kt _ _ ht) (M4.tT.mono kt)⟩, ⟨dx4, ?_⟩, fun b o z => ?_, hq', by omega, hc3, ?_, hc64, ?_, ?_, rfl⟩
                · rw [upd_ne (nt M4.ins (by intro xs z; cases z))]
                  exact M4.ins
                · rw [upd_ne M.ne]
                  exact M4.c
                · rw [upd_same, List.map_append]
                  rfl
                · rw [upd_ne (nt r4 (by intro xs z; cases z))]
                  exact r4
                · have htl0 : H tl = none := by
                    cases y : H tl with
                    | none => rfl
                    | some o' =>
                      have y' : upd H cl (.lst []) tl = some o' := by rw [upd_ne (ne_of_none y hcl)]; exact y
                      rw [htl] at y'
                      cases y'
                  rw [upd_ne (ne_of_none z htl0)]
                  exact up kp4 b o z
                · intro x hx
                  rcases List.mem_append.mp hx with z | z
                  · exact hf3 x z
                  · rw [List.mem_singleton.mp z]
                    exact h3
                · rw [List.length_append, List.length_singleton]
                  omega
                · rw [e3, MM.drop_at h116, List.map_append, List.reverse_append]
                  have ef : Bead.faceIn (cs.map MM.cornerOf).reverse.length (q + 1) (B.drop (q + 1)) = .ok (MM.faceOf xs, q', B.drop q') := by
                    rw [lc, MM.face_nums _ (by omega) hc64]
                    have ex' : MM.numsIn (fun ns => MM.numIn (cs.length - 1) ns) 3 [] (q + 1) (B.drop (q + 1)) = .ok (xs, q', B.drop q') := ex
                    rw [ex']
                    rfl
                  exact MM.mesh_t_ok rfl (by rw [lc]; exact h2.1) (by rw [lf]; exact h2.2) ef
            · rw [e3, MM.drop_at h116]
              refine MM.mesh_t_err rfl (by rw [lc]; exact h2.1) (by rw [lf]; exact h2.2) ?_
              rw [lc, MM.face_nums _ (by omega) hc64]
              have ex' : MM.numsIn (fun ns => MM.numIn (cs.length - 1) ns) 3 [] (q + 1) (B.drop (q + 1)) = .error q' := ex
              rw [ex']
              rfl
          · have hb : (decide (3 ≤ cs.length) && decide (fs.length < 128)) = false := by
              rw [Bool.and_eq_false_iff, decide_eq_false_iff_not, decide_eq_false_iff_not]
              omega
            rw [hb]
            exact raise fun z => h2 z.2
        · rw [decide_eq_false h116]; refine iteF ?_
          refine raise fun z => h116 ?_
          rw [hc, z.1]
      refine ⟨_, rfl, x2, dx, _, rfl, r3, rf_no a q (by decide +kernel) (by decide +kernel), x2, a, q, B, 118, rfl, ⟨dx, r3⟩, hs3, hq, _, rfl, ?_⟩
      by_cases h118 : B[q]? = some 118
      · have e118 : c = 118 := by
          rw [hc] at h118
          exact Option.some.inj h118
        rw [decide_eq_true h118]; refine iteT ?_
        refine ⟨_, rfl, x0, cs, fs, rfl, RM, _, rfl, ?_⟩
        by_cases h2 : cs.length < 64 ∧ fs.length = 0
        · rw [decide_eq_true h2.1, decide_eq_true h2.2]
          show _
          have f0 : (fs.map MM.faceOf).reverse = [] := fnil.mpr h2.2
          refine ⟨_, rfl, x0, A.cM, d0, _, _, rfl, M.ins, T.cM, T.nMc, mf_c cl tl, .inl ⟨rfl, _, SqL.of M.c⟩, _, rfl, ?_⟩
          refine ⟨x2, a, q, 65535, false, B, 118, rfl, ⟨dx, r3⟩, hs3, h118, by omega, fun xs q' ex h3 hq' hqq H4 t r4 ht kp4 => ?_, fun q' ex dxx Hx hxx kxx => k2 q' ?_ dxx Hx hxx (up kxx)⟩
          · have M4 := M.keep ⟨dx, r3⟩ kp4
            obtain ⟨dx4, r4⟩ := r4
            refine ⟨cl, _, _, rfl, rfl, M4.c, ?_, ?_⟩
            · rw [List.length_map, M.cT.len]
              exact Nat.lt_trans h2.1 (by show 64 < sizeLine; decide)
            · have nt : ∀ {b o}, H4 b = some o → (∀ xs, o ≠ .lst xs) → b ≠ cl := fun z d => ne_of z M4.c (d _)
              have kt : ∀ b ys, H4 b = some (.tup ys) → upd H4 cl (.lst (cas.map V.ref ++ [.ref t])) b = some (.tup ys) := fun b ys z => by
                rw [upd_ne (nt z (by intro xs z; cases z))]
                exact z
              refine ⟨B.length - q', by omega, cas ++ [t], tas, cs ++ [xs], fs, q', f', rfl, ⟨?_, ?_, ?_, M.ne, TupsAt.snoc (kt _ _ ht) (M4.cT.mono kt), M4.tT.mono kt⟩, ⟨dx4, ?_⟩, fun b o z => ?_, hq', by omega, ?_, hf3, ?_, hf128, ?_, rfl⟩
              · rw [upd_ne (nt M4.ins (by intro xs z; cases z))]
                exact M4.ins
              · rw [upd_same, List.map_append]
                rfl
              · rw [upd_ne (Ne.symm M.ne)]
                exact M4.t
              · rw [upd_ne (nt r4 (by intro xs z; cases z))]
                exact r4
              · rw [upd_ne (ne_of_none z hcl)]
                exact up kp4 b o z
              · intro x hx
                rcases List.mem_append.mp hx with z | z
                · exact hc3 x z
                · rw [List.mem_singleton.mp z]
                  exact h3
              · rw [List.length_append, List.length_singleton]
                omega
              · rw [e3, MM.drop_at h118, List.map_append, List.reverse_append, f0]
                have ef : Bead.cornerIn (q + 1) (B.drop (q + 1)) = .ok (MM.cornerOf xs, q', B.drop q') := by
                  rw [MM.corner_nums]
                  have ex' : MM.numsIn (fun _ => MM.numIn 65535 []) 3 [] (q + 1) (B.drop (q + 1)) = .ok (xs, q', B.drop q') := ex
                  rw [ex']
                  rfl
                exact MM.mesh_v_ok (by rw [lc]; exact h2.1) ef
          · rw [e3, MM.drop_at h118, f0]
            refine MM.mesh_v_err (by rw [lc]; exact h2.1) ?_
            rw [MM.corner_nums]
            have ex' : MM.numsIn (fun _ => MM.numIn 65535 []) 3 [] (q + 1) (B.drop (q + 1)) = .error q' := ex
            rw [ex']
            rfl
        · have hb : (decide (cs.length < 64) && decide (fs.length = 0)) = false := by
            rw [Bool.and_eq_false_iff, decide_eq_false_iff_not, decide_eq_false_iff_not]
            omega
          rw [hb]
          exact second fun z => h2 z.2
      · rw [decide_eq_false h118]; refine iteF ?_
        refine second fun z => h118 ?_
        rw [hc, z.1]
end
section
variable {P : Program} {w : World} {K : PySem.W.Frag} {mg : Str → Option Value} {base : Heap} {A : Adr}
/-! ### answer, refusal -/
def spAns : Sp := fun vs H Q _ => ∃ (n : Int) (a b : Addr) (xs ys : List V), vs = [.int n, .ref a, .ref b] ∧ H a = some (.lst xs) ∧ H b = some (.lst ys) ∧ xs.length ≤ 100000 ∧ ys.length ≤ 100000 ∧
  ∀ (H' : Hp) (p : Addr), H' p = some (.lst (([.int n, .int (xs.length : Int)] ++ xs ++ [.int (ys.length : Int)]) ++ ys)) → Q (.ref p) H'
theorem scAns : FnScope ["number", "told", "numbers"] ["number", "told", "numbers"] (defScope sAns) := ⟨rfl, rfl, rfl, by decide +kernel, rfl, by decide +kernel, by decide +kernel⟩
theorem ok_ans (T : Txt K mg A) : ∃ fd, FnOkC P w K mg base CX0 1 A.fAns fd ["number", "told", "numbers"] spAns ∧ Binds K fd ["number", "told", "numbers"] [] ∧ PySem.W.keepIn K (.ref A.fAns) = true := by
  obtain ⟨fd, F, b⟩ := T.bAns
  refine ⟨fd, F.okC scAns (fun vs H Q E h => ?_) (fun cdv A' outer s H vs Q E hr h => ?_), b, F.kp⟩
  · obtain ⟨n, a, b, xs, ys, rfl, _⟩ := h
    rfl
  · obtain ⟨n, a, b, xs, ys, rfl, ha, hb, hx, hy, k⟩ := h
    refine ⟨_, pss_one (ps_ret (pe_op op_cat (pe_op op_cat (pe_op op_cat (pe_lst (pa_cons (pv 0) (pa_cons (pe_callB call_len_seq (by rfl) T.len PySem.boot_len (pa_cons (pv 1) pa_nil)) pa_nil))) (pv 1))
      (pe_lst (pa_cons (pe_callB call_len_seq (by rfl) T.len PySem.boot_len (pa_cons (pv 2) pa_nil)) pa_nil))) (pv 2))), ?_⟩
    refine ⟨_, rfl, _, rfl, a, _, rfl, .inl (SqL.of ha), (by show 2 ≤ sizeLine; decide), fun l1 n1 => ?_⟩
    have a1 : upd H l1 (.lst [.int n, .int (xs.length : Int)]) a = some (.lst xs) := by rw [upd_ne (ne_of_none ha n1)]; exact ha
    have b1 : upd H l1 (.lst [.int n, .int (xs.length : Int)]) b = some (.lst ys) := by rw [upd_ne (ne_of_none hb n1)]; exact hb
    refine ⟨_, rfl, l1, a, _, _, rfl, rfl, upd_same, a1, line_at (by simp only [List.length_cons, List.length_nil]; omega), fun l2 n2 => ?_⟩
    have b2 := (upd_ne (ne_of_none b1 n2) (o := HO.lst ([.int n, .int (xs.length : Int)] ++ xs))).trans b1
    refine ⟨_, rfl, b, _, rfl, .inl (SqL.of b2), (by show 1 ≤ sizeLine; decide), fun l3 n3 => ?_⟩
    have b3 := (upd_ne (ne_of_none b2 n3) (o := HO.lst [.int (ys.length : Int)])).trans b2
    have c3 : upd (upd (upd H l1 (.lst [.int n, .int (xs.length : Int)])) l2 (.lst ([.int n, .int (xs.length : Int)] ++ xs))) l3 (.lst [.int (ys.length : Int)]) l2 = some (.lst ([.int n, .int (xs.length : Int)] ++ xs)) := by
      rw [upd_ne (ne_of_none (upd_same : upd (upd H l1 (.lst [.int n, .int (xs.length : Int)])) l2 (.lst ([.int n, .int (xs.length : Int)] ++ xs)) l2 = _) n3)]
      exact upd_same
    refine ⟨l2, l3, _, _, rfl, rfl, c3, upd_same, line_at (by simp only [List.length_cons, List.length_nil, List.length_append]; omega), fun l4 n4 => ?_⟩
    have b4 := (upd_ne (ne_of_none b3 n4) (o := HO.lst ([.int n, .int (xs.length : Int)] ++ xs ++ [.int (ys.length : Int)]))).trans b3
    refine ⟨_, rfl, l4, b, _, _, rfl, rfl, upd_same, b4, line_at (by simp only [List.length_cons, List.length_nil, List.length_append]; omega), fun l5 n5 => ?_⟩
    exact k _ l5 upd_same
def spRef : Sp := fun vs H Q _ => ∃ n : Int, vs = [.int n] ∧ ∀ (H' : Hp) (p : Addr), H' p = some (.lst [.int n, .int 0, .int 0]) → Q (.ref p) H'
theorem scRef : FnScope ["number"] ["number"] (defScope sRef) := ⟨rfl, rfl, rfl, by decide +kernel, rfl, by decide +kernel, by decide +kernel⟩
theorem ok_ref (T : Txt K mg A) : ∃ fd, FnOkC P w K mg base CX0 2 A.fRef fd ["number"] spRef ∧ Binds K fd ["number"] [] ∧ PySem.W.keepIn K (.ref A.fRef) = true := by
  obtain ⟨fd, F, b⟩ := T.bRef
  obtain ⟨fdA, GA, bA, kA⟩ := ok_ans (P := P) (w := w) (base := base) T
  refine ⟨fd, F.okC scRef (fun vs H Q E h => ?_) (fun cdv A' outer s H vs Q E hr h => ?_), b, F.kp⟩
  · obtain ⟨n, rfl, _⟩ := h
    rfl
  · obtain ⟨n, rfl, k⟩ := h
    refine ⟨_, pss_one (ps_ret (pe_callC GA hr (by rfl) T.gAns kA bA pass0 (pa_cons (pv 0) (pa_cons (pe_lst pa_nil) (pa_cons (pe_lst pa_nil) pa_nil))))), ?_⟩
    refine ⟨_, rfl, Nat.zero_le _, fun l1 n1 => ⟨Nat.zero_le _, fun l2 n2 => ?_⟩⟩
    have a1 : upd (upd H l1 (.lst [])) l2 (.lst []) l1 = some (.lst []) := by
      rw [upd_ne (ne_of_none (upd_same : upd H l1 (.lst []) l1 = _) n2)]
      exact upd_same
    exact ⟨n, l1, l2, [], [], rfl, a1, upd_same, Nat.zero_le _, Nat.zero_le _, fun H' p hp => k H' p hp⟩
end
end MP

end

section
set_option Elab.async false
set_option linter.all false
set_option maxRecDepth 100000
set_option maxHeartbeats 2000000
namespace MP
open PySem PySem.Spec PyProof.Rows L2
open Bead (Bytes In isDigit)
/-! ### what is due -/
/-- what is due -/
def due (c : Bodies.Call) : List Int := BodiesNeutral.numbersOf (Bodies.answer c)
theorem looked_short {B : Bytes} (h : ¬ 16384 < B.length) (a : Bodies.Answer) : Bodies.looked [B] a = a := by
  unfold Bodies.looked
  rw [if_neg]
  rw [List.any_cons, decide_eq_false (show ¬ Bead.LOOKED < B.length from h)]
  decide
theorem looked_long {B : Bytes} (h : 16384 < B.length) (a : Bodies.Answer) : Bodies.looked [B] a = Bead.says (-2) := by
  unfold Bodies.looked
  rw [if_pos]
  rw [List.any_cons, decide_eq_true (show Bead.LOOKED < B.length from h)]
  rfl
theorem says_is (z : Int) : (BodiesNeutral.numbersOf (Bead.says z)).map V.int = [.int z, .int 0, .int 0] := rfl
theorem boot_mn : bootBuiltins "min" = some (.builtin "min") := by decide +kernel
theorem boot_mx : bootBuiltins "max" = some (.builtin "max") := by decide +kernel
theorem boot_srt : bootBuiltins "sorted" = some (.builtin "sorted") := by decide +kernel
/-! ### the request -/
theorem text_back : ∀ {ns : List Int}, ns.all (PySem.W.Codec.inInt 0 255) = true → ns.map V.int = (BodiesNeutral.text ns).map bV
  | [], _ => rfl
  | n :: ns, h => by
    rw [List.all_cons, Bool.and_eq_true] at h
    have ih := text_back h.2
    have h1 : 0 ≤ n ∧ n ≤ 255 := PySem.W.Codec.inInt_iff.mp h.1
    show V.int n :: ns.map V.int = bV (UInt8.ofNat n.toNat) :: (BodiesNeutral.text ns).map bV
    rw [ih]
    congr 1
    show V.int n = V.int (((UInt8.ofNat n.toNat).toNat : Nat) : Int)
    rw [UInt8.toNat_ofNat_of_lt' (by show n.toNat < 256; omega)]
    congr 1
    omega
/-! ### more of meshes in the heap -/
theorem TupsAt.at_ {H : Hp} : ∀ {as : List Addr} {xs : List (List Nat)} (i : Nat) {a : Addr}, TupsAt H as xs → as[i]? = some a → ∃ x, xs[i]? = some x ∧ H a = some (.tup (x.map nV))
  | [], _, i, a, _, e => by simp at e
  | _ :: _, [], _, _, h, _ => h.elim
  | b :: _, y :: _, 0, a, ⟨h1, _⟩, e => by
    simp at e
    subst e
    exact ⟨y, rfl, h1⟩
  | _ :: as, _ :: xs, i + 1, a, ⟨_, h2⟩, e => by
    obtain ⟨x, e1, e2⟩ := TupsAt.at_ i h2 (by simpa using e)
    exact ⟨x, by simpa using e1, e2⟩
theorem take_more {α : Type} {l : List α} {i : Nat} {x : α} (h : l[i]? = some x) : l.take (i + 1) = l.take i ++ [x] := by
  rw [List.take_add_one, h]
  rfl
theorem refs_at {cas : List Addr} {j : Nat} {x : V} (h : (cas.map V.ref)[j]? = some x) : ∃ c, cas[j]? = some c ∧ x = .ref c := by
  rw [List.getElem?_map] at h
  cases e : cas[j]? with
  | none =>
    rw [e] at h
    cases h
  | some c =>
    rw [e] at h
    exact ⟨c, rfl, (Option.some.inj h).symm⟩
theorem MeshOf.same {A : Adr} {H H' : Hp} {m dm cl tl : Addr} {cas tas : List Addr} {cs fs : List (List Nat)} (M : MeshOf A H m dm cl tl cas tas cs fs) (k : Same H H') : MeshOf A H' m dm cl tl cas tas cs fs :=
  ⟨k _ _ M.ins, k _ _ M.c, k _ _ M.t, M.ne, M.cT.mono fun b ys e => k _ _ e, M.tT.mono fun b ys e => k _ _ e⟩
/-! ### mesh_of -/
def spMo (A : Adr) (K : PySem.W.Frag) : Sp := fun vs H Q _ => ∃ (a : Addr) (B : Bytes), vs = [.ref a] ∧ SqL K H a (B.map bV) ∧
  (∀ cs fs, Bead.readMesh B = .ok ⟨cs.map MM.cornerOf, fs.map MM.faceOf⟩ → (∀ x ∈ cs, x.length = 3) → (∀ x ∈ fs, x.length = 3) → cs.length ≤ 64 → fs.length ≤ 128 → ∀ (H' : Hp) (m : Addr), MeshAt A H' m cs fs → Same H H' → Q (.ref m) H') ∧
  (∀ q, Bead.readMesh B = .error q → ∀ H' : Hp, Same H H' → Q .non H')
section
variable {P : Program} {w : World} {K : PySem.W.Frag} {mg : Str → Option Value} {base : Heap} {A : Adr}
theorem scMo : FnScope ["t"] ["t"] (defScope sMo) := ⟨rfl, rfl, rfl, by decide +kernel, rfl, by decide +kernel, by decide +kernel⟩
theorem ok_mo (T : Txt K mg A) : ∃ fd, FnOk P w K mg base CX0 11 A.fMo fd ["t"] (spMo A K) ∧ Binds K fd ["t"] [] ∧ PySem.W.keepIn K (.ref A.fMo) = true := by
  obtain ⟨fd, F, b⟩ := T.bMo
  obtain ⟨fdM, GM, bM, kM⟩ := ok_rm (P := P) (w := w) (base := base) T
  refine ⟨fd, F.ok scMo (fun vs H Q E h => ?_) (fun cdv A' outer s H vs Q E hr h => ?_), b, F.kp⟩
  · obtain ⟨a, B, rfl, _⟩ := h
    rfl
  · obtain ⟨a, B, rfl, hs, k1, k2⟩ := h
    refine ⟨_, pss_one (ps_try0 T.exF.ex (by rfl) T.gF rfl rfl
      (fun pl E' E hx => pss_one (ps_ret (pe_call GM hr (by rfl) T.gRm kM bM .nil hx (pa_cons (pv 0) pa_nil))))
      (fun e pl => pss_one (ps_ret pe_non))), ?_⟩
    exact ⟨_, rfl, a, B, rfl, hs, fun cs fs e h3 f3 h64 h128 H1 m M s1 => k1 cs fs e h3 f3 h64 h128 H1 m M s1, fun q e dx H1 h1 s1 => ⟨rfl, fun dx' ed σ' hσ => k2 q e H1 s1⟩⟩
end
theorem of_mesh {B : Bytes} {M : Bead.Mesh} (e : Bead.readMesh B = .ok M) (f : Bead.Mesh → Bodies.Answer) : Bodies.ofMesh B f = f M := by
  unfold Bodies.ofMesh
  rw [e]
theorem of_nomesh {B : Bytes} {q : Nat} (h : Bead.readMesh B = .error q) (f : Bead.Mesh → Bodies.Answer) : Bodies.ofMesh B f = Bead.says (-6) := by
  unfold Bodies.ofMesh
  rw [h]
/-! ### sides, counted -/
/-- over the keys of a locked dict, its keys tuples -/
theorem lc_keysT {d : Addr} {o : Obj} {kvs : List (List Key × V)} {g : TG} {tt : TT} {te : TE} {vs : List Nat} {σ : L2.St} {H1 : Hp} {D : Addr} {Qd : Hp → Prop} (Pv : Nat → Hp → Prop) (h0 : Pv 0 (upd H1 D (.lst []))) (hl : ∀ i H, i ≤ kvs.length → Pv i H → H d = some (.frz o (.dT kvs)))
    (hs : ∀ i k v q H, kvs[i]? = some (k, v) → H q = some (.tup (k.map kV)) → Pv i H → g (.ref q) (wipe σ vs) H fun σ2 H2 => wipe σ2 vs = wipe σ vs ∧ tt σ2 H2 fun b H3 =>
      if b = true then te σ2 H3 fun y H4 => ∃ acc, H4 D = some (.lst acc) ∧ acc.length < sizeLine ∧ Pv (i + 1) (upd H4 D (.lst (acc ++ [y]))) else Pv (i + 1) H3) (hd : ∀ H, Pv kvs.length H → Qd H) :
    ∃ W : Nat → Nat → Hp → Prop, (∃ m, W 0 m (upd H1 D (.lst []))) ∧ ∀ i m H, W i m H →
      ((Itkt d o kvs).stop i H ∧ Qd H) ∨ ((Itkt d o kvs).go i H ∧ ∃ Nx : Hp → Prop, (∀ H', Nx H' → ∃ m', m' < m ∧ W (i + 1) m' H') ∧ ∀ x H', (Itkt d o kvs).yld i H x H' → g x (wipe σ vs) H' fun σ2 H2 => wipe σ2 vs = wipe σ vs ∧ tt σ2 H2 fun b H3 =>
        if b = true then te σ2 H3 fun y H4 => ∃ acc, H4 D = some (.lst acc) ∧ acc.length < sizeLine ∧ Nx (upd H4 D (.lst (acc ++ [y]))) else Nx H3) := by
  refine ⟨fun i m H => m = kvs.length - i ∧ i ≤ kvs.length ∧ Pv i H, ⟨kvs.length, by simp, Nat.zero_le _, h0⟩, ?_⟩
  rintro i m H ⟨rfl, hi, p⟩
  have q := hl i H hi p
  by_cases hlt : i < kvs.length
  · refine .inr ⟨⟨q, hlt⟩, Pv (i + 1), fun H' p' => ⟨kvs.length - (i + 1), by omega, rfl, hlt, p'⟩, fun x H' y => ?_⟩
    obtain ⟨e, k, v, qa, e1, e2, e3⟩ := y
    subst e e2
    exact hs i k v qa _ e1 e3 p
  · have e : i = kvs.length := by omega
    subst e
    exact .inl ⟨⟨q, Nat.le_refl _⟩, hd H p⟩
/-- a side as a key -/
def kk (p : Nat × Nat) : List Key := [Sum.inl (p.1 : Int), Sum.inl (p.2 : Int)]
theorem kk_inj {p q : Nat × Nat} (h : kk p = kk q) : p = q := by
  obtain ⟨a, b⟩ := p
  obtain ⟨c, d⟩ := q
  unfold kk at h
  simp only [List.cons.injEq, Sum.inl.injEq, and_true] at h
  have h1 : a = c := by omega
  have h2 : b = d := by omega
  rw [h1, h2]
/-- the dict's pairs count the sides of L -/
structure Cnt (kvs : List (List Key × V)) (L : List (Nat × Nat)) : Prop where
  val : ∀ p, valV kvs (kk p) = if L.count p = 0 then none else some (.int (L.count p : Int))
  key : ∀ e ∈ kvs, ∃ p, e.1 = kk p ∧ p ∈ L
  len : kvs.length ≤ L.length
theorem Cnt.nil : Cnt [] [] := ⟨fun _ => rfl, (fun e he => by cases he), Nat.le_refl _⟩
theorem mem_putK {kvs : List (List Key × V)} {k : List Key} {v : V} {e : List Key × V} (h : e ∈ putK kvs k v) : (∃ e' ∈ kvs, e.1 = e'.1) ∨ e.1 = k := by
  unfold putK at h
  split at h
  · obtain ⟨e', h1, h2⟩ := List.mem_map.mp h
    refine .inl ⟨e', h1, ?_⟩
    rw [← h2]
    split <;> rfl
  · rcases List.mem_append.mp h with h | h
    · exact .inl ⟨e, h, rfl⟩
    · rw [List.mem_singleton.mp h]
      exact .inr rfl
theorem Cnt.put {kvs : List (List Key × V)} {L : List (Nat × Nat)} (C : Cnt kvs L) (p : Nat × Nat) : Cnt (putK kvs (kk p) (.int ((L.count p : Int) + 1))) (L ++ [p]) := by
  refine ⟨fun q => ?_, fun e he => ?_, ?_⟩
  · rw [valV_put, List.count_append]
    by_cases z : q = p
    · subst z
      rw [if_pos rfl, List.count_cons_self, List.count_nil, if_neg (by omega)]
      congr 1
    · have z' : ¬ kk q = kk p := fun y => z (kk_inj y)
      have z2 : List.count q [p] = 0 := by
        rw [List.count_eq_zero]
        intro y
        exact z (List.mem_singleton.mp y)
      rw [if_neg z', z2, Nat.add_zero]
      exact C.val q
  · rcases mem_putK he with ⟨e', h1, h2⟩ | h
    · obtain ⟨q, h3, h4⟩ := C.key e' h1
      exact ⟨q, h2.trans h3, List.mem_append_left _ h4⟩
    · exact ⟨p, h, List.mem_append_right _ (List.mem_singleton.mpr rfl)⟩
  · rw [List.length_append, List.length_singleton]
    exact Nat.le_trans (length_putK _ _ _) (by have := C.len; omega)
/-! ### sides -/
theorem perm_sum {l l' : List Int} (h : l.Perm l') : l.sum = l'.sum := by
  induction h with
  | nil => rfl
  | cons x _ ih => rw [List.sum_cons, List.sum_cons, ih]
  | swap x y l =>
    rw [List.sum_cons, List.sum_cons, List.sum_cons, List.sum_cons]
    omega
  | trans _ _ a b => exact a.trans b
theorem sort3 {a b c : Nat} {l : List Int} (hp : l.Perm [(a : Int), (b : Int), (c : Int)]) (hs : l.Pairwise (· ≤ ·)) :
    l = [((min a (min b c) : Nat) : Int), ((a + b + c - min a (min b c) - max a (max b c) : Nat) : Int), ((max a (max b c) : Nat) : Int)] := by
  have hl := hp.length_eq
  match l, hl with
  | [x, y, z], _ =>
    have m1 := hp.mem_iff (a := x)
    have m2 := hp.mem_iff (a := y)
    have m3 := hp.mem_iff (a := z)
    have m4 := hp.mem_iff (a := (a : Int))
    have m5 := hp.mem_iff (a := (b : Int))
    have m6 := hp.mem_iff (a := (c : Int))
    have sm : x + (y + (z + 0)) = (a : Int) + ((b : Int) + ((c : Int) + 0)) := perm_sum hp
    simp only [List.mem_cons, List.not_mem_nil, or_false, true_or, or_true, true_iff, iff_true] at m1 m2 m3 m4 m5 m6
    simp only [List.pairwise_cons, List.mem_cons, List.not_mem_nil, or_false, forall_eq_or_imp, forall_eq] at hs
    have e1 : x = ((min a (min b c) : Nat) : Int) := by omega
    have e3 : z = ((max a (max b c) : Nat) : Int) := by omega
    have e2 : y = ((a + b + c - min a (min b c) - max a (max b c) : Nat) : Int) := by omega
    rw [e1, e2, e3]
def spSi (K : PySem.W.Frag) : Sp := fun vs H Q _ => ∃ (t : Addr) (x : List Nat), vs = [.ref t] ∧ SqT K H t (x.map nV) ∧ x.length = 3 ∧
  ∀ (H' : Hp) (p : Addr) (ts : List Addr), H' p = some (.lst (ts.map V.ref)) → ts.length = 3 → (∀ (i : Nat) t q, ts[i]? = some t → (MM.pairs (MM.faceOf x))[i]? = some q → H' t = some (.tup [nV q.1, nV q.2])) → Same H H' → Q (.ref p) H'
section
variable {P : Program} {w : World} {K : PySem.W.Frag} {mg : Str → Option Value} {base : Heap} {A : Adr}
theorem scSi : FnScope ["triangle", "corners"] ["triangle"] (defScope ssides) := ⟨rfl, rfl, rfl, by decide +kernel, rfl, by decide +kernel, by decide +kernel⟩
theorem ok_si (T : Txt K mg A) : ∃ fd, FnOk P w K mg base CX0 1 A.fsides fd ["triangle"] (spSi K) ∧ Binds K fd ["triangle"] [] ∧ PySem.W.keepIn K (.ref A.fsides) = true := by
  obtain ⟨fd, F, b⟩ := T.bsides
  refine ⟨fd, F.ok scSi (fun vs H Q E h => ?_) (fun cdv A' outer s H vs Q E hr h => ?_), b, F.kp⟩
  · obtain ⟨t, x, rfl, _⟩ := h
    rfl
  · obtain ⟨t, x, rfl, ht, h3, k⟩ := h
    have ix := fun (i : Nat) => @pe_ix
    refine ⟨_, pss_cons (ps_set (i := 1) scSi.nd rfl (Or.inl rfl) (pe_callB cr_sortedT (by rfl) T.sorted boot_srt (pa_cons (pv 0) pa_nil)))
      (pss_one (ps_ret (pe_lst (pa_cons (pe_tup (pa_cons (pe_ix ix_list (pv 1) pe_int (fun _ _ => rfl)) (pa_cons (pe_ix ix_list (pv 1) pe_int (fun _ _ => rfl)) pa_nil))) (pa_cons (pe_tup (pa_cons (pe_ix ix_list (pv 1) pe_int (fun _ _ => rfl)) (pa_cons (pe_ix ix_list (pv 1) pe_int (fun _ _ => rfl)) pa_nil)))
        (pa_cons (pe_tup (pa_cons (pe_ix ix_list (pv 1) pe_int (fun _ _ => rfl)) (pa_cons (pe_ix ix_list (pv 1) pe_int (fun _ _ => rfl)) pa_nil))) pa_nil)))))), ?_⟩
    match x, h3 with
    | [a, b', c], _ =>
      refine ⟨_, rfl, t, [(a : Int), (b' : Int), (c : Int)], rfl, ht, (by show 3 < 64; decide), fun ns' l pm pw hl => ?_⟩
      rw [sort3 pm pw]
      generalize hlo : min a (min b' c) = lo
      generalize hhi : max a (max b' c) = hi
      generalize hmd : a + b' + c - lo - hi = md
      have hpairs : MM.pairs (MM.faceOf [a, b', c]) = [(lo, md), (lo, hi), (md, hi)] := by
        show [(min a (min b' c), a + b' + c - min a (min b' c) - max a (max b' c)), (min a (min b' c), max a (max b' c)), (a + b' + c - min a (min b' c) - max a (max b' c), max a (max b' c))] = _
        rw [hlo, hhi, hmd]
      have s1 : Same H (upd H l (.lst [nV lo, nV md, nV hi])) := fun b o q => by
        rw [upd_ne (ne_of_none q hl)]
        exact q
      have l1 : upd H l (.lst [nV lo, nV md, nV hi]) l = some (.lst [nV lo, nV md, nV hi]) := upd_same
      refine ⟨_, rfl, l, _, _, nV lo, rfl, rfl, SqL.of l1, rfl, _, rfl, l, _, _, nV md, rfl, rfl, SqL.of l1, rfl, (by show 2 ≤ sizeLine; decide), fun t1 n1 => ?_⟩
      have l2 := (upd_ne (ne_of_none l1 n1) (o := HO.tup [nV lo, nV md])).trans l1
      refine ⟨_, rfl, l, _, _, nV lo, rfl, rfl, SqL.of l2, rfl, _, rfl, l, _, _, nV hi, rfl, rfl, SqL.of l2, rfl, (by show 2 ≤ sizeLine; decide), fun t2 n2 => ?_⟩
      have l3 := (upd_ne (ne_of_none l2 n2) (o := HO.tup [nV lo, nV hi])).trans l2
      refine ⟨_, rfl, l, _, _, nV md, rfl, rfl, SqL.of l3, rfl, _, rfl, l, _, _, nV hi, rfl, rfl, SqL.of l3, rfl, (by show 2 ≤ sizeLine; decide), fun t3 n3 => ⟨(by show 3 ≤ sizeLine; decide), fun p np => ?_⟩⟩
      have k1 : ∀ {b o}, upd H l (.lst [nV lo, nV md, nV hi]) b = some o → upd (upd (upd (upd (upd H l (.lst [nV lo, nV md, nV hi])) t1 (.tup [nV lo, nV md])) t2 (.tup [nV lo, nV hi])) t3 (.tup [nV md, nV hi])) p (.lst [.ref t1, .ref t2, .ref t3]) b = some o := fun {b o} q => by
        have q1 := (upd_ne (ne_of_none q n1) (o := HO.tup [nV lo, nV md])).trans q
        have q2 := (upd_ne (ne_of_none q1 n2) (o := HO.tup [nV lo, nV hi])).trans q1
        have q3 := (upd_ne (ne_of_none q2 n3) (o := HO.tup [nV md, nV hi])).trans q2
        exact (upd_ne (ne_of_none q3 np)).trans q3
      have a1 : upd (upd H l (.lst [nV lo, nV md, nV hi])) t1 (.tup [nV lo, nV md]) t1 = some (.tup [nV lo, nV md]) := upd_same
      have a2 := (upd_ne (ne_of_none a1 n2) (o := HO.tup [nV lo, nV hi])).trans a1
      have a3 := (upd_ne (ne_of_none a2 n3) (o := HO.tup [nV md, nV hi])).trans a2
      have a4 := (upd_ne (ne_of_none a3 np) (o := HO.lst [.ref t1, .ref t2, .ref t3])).trans a3
      have b2 : upd (upd (upd H l (.lst [nV lo, nV md, nV hi])) t1 (.tup [nV lo, nV md])) t2 (.tup [nV lo, nV hi]) t2 = some (.tup [nV lo, nV hi]) := upd_same
      have b3 := (upd_ne (ne_of_none b2 n3) (o := HO.tup [nV md, nV hi])).trans b2
      have b4 := (upd_ne (ne_of_none b3 np) (o := HO.lst [.ref t1, .ref t2, .ref t3])).trans b3
      have c3 : upd (upd (upd (upd H l (.lst [nV lo, nV md, nV hi])) t1 (.tup [nV lo, nV md])) t2 (.tup [nV lo, nV hi])) t3 (.tup [nV md, nV hi]) t3 = some (.tup [nV md, nV hi]) := upd_same
      have c4 := (upd_ne (ne_of_none c3 np) (o := HO.lst [.ref t1, .ref t2, .ref t3])).trans c3
      refine k _ p [t1, t2, t3] upd_same rfl (fun i t' q e1 e2 => ?_) fun b o q => k1 (s1 b o q)
      rw [hpairs] at e2
      match i, e1, e2 with
      | 0, e1, e2 =>
        cases e1
        cases e2
        exact a4
      | 1, e1, e2 =>
        cases e1
        cases e2
        exact b4
      | 2, e1, e2 =>
        cases e1
        cases e2
        exact c4
      | i + 3, e1, e2 => simp at e1
/-! ### first_odd_side -/
def meshOf (cs fs : List (List Nat)) : Bead.Mesh := ⟨cs.map MM.cornerOf, fs.map MM.faceOf⟩
def spFo (A : Adr) : Sp := fun vs H Q _ => ∃ (m : Addr) (cs fs : List (List Nat)), vs = [.ref m] ∧ MeshAt A H m cs fs ∧ (∀ x ∈ fs, x.length = 3) ∧ MM.MeshOk (meshOf cs fs) ∧
  ((meshOf cs fs).openSide = none → ∀ H' : Hp, Same H H' → Q .non H') ∧ (∀ q, (meshOf cs fs).openSide = some q → ∀ (H' : Hp) (t : Addr), H' t = some (.tup [nV q.1, nV q.2]) → Same H H' → Q (.ref t) H')
/-- the sides of the first i triangles -/
def done (fs : List (List Nat)) (i : Nat) : List (Nat × Nat) := (((fs.take i).map MM.faceOf).map MM.pairs).flatten
theorem done_next {fs : List (List Nat)} {i : Nat} {x : List Nat} (h : fs[i]? = some x) : done fs (i + 1) = done fs i ++ MM.pairs (MM.faceOf x) := by
  unfold done
  rw [take_more h, List.map_append, List.map_append, List.flatten_append]
  simp
theorem done_len (fs : List (List Nat)) : ∀ i, (done fs i).length ≤ 3 * i := by
  intro i
  induction i with
  | zero =>
    unfold done
    simp
  | succ i ih =>
    cases h : fs[i]? with
    | none =>
      have e : done fs (i + 1) = done fs i := by
        unfold done
        rw [List.take_of_length_le (by have := List.getElem?_eq_none_iff.mp h; omega), List.take_of_length_le (List.getElem?_eq_none_iff.mp h)]
      rw [e]
      omega
    | some x =>
      rw [done_next h, List.length_append]
      have : (MM.pairs (MM.faceOf x)).length = 3 := rfl
      omega
theorem scFo : FnScope ["mesh", "counts", "triangle", "side"] ["mesh"] (defScope sfirst_odd_side) := ⟨rfl, rfl, rfl, by decide +kernel, rfl, by decide +kernel, by decide +kernel⟩
theorem lex2 (a b c d : Nat) : HT.lexLt [(a : Int), (b : Int)] [(c : Int), (d : Int)] = decide (a < c ∨ (a = c ∧ b < d)) := by
  rw [HT.lexLt_cons, HT.lexLt_cons, HT.lexLt_nil_nil]
  by_cases h1 : a = c
  · rw [if_pos (by omega)]
    by_cases h2 : b = d
    · rw [if_pos (by omega)]
      exact (decide_eq_false (by omega)).symm
    · rw [if_neg (by omega), decide_eq_decide]
      omega
  · rw [if_neg (by omega), decide_eq_decide]
    omega
theorem ok_fo (T : Txt K mg A) : ∃ fd, FnOk P w K mg base CX0 2 A.ffirst_odd_side fd ["mesh"] (spFo A) ∧ Binds K fd ["mesh"] [] ∧ PySem.W.keepIn K (.ref A.ffirst_odd_side) = true := by
  obtain ⟨fd, F, b⟩ := T.bfirst_odd_side
  obtain ⟨fdS, GS, bS, kS⟩ := ok_si (P := P) (w := w) (base := base) T
  refine ⟨fd, F.ok scFo (fun vs H Q E h => ?_) (fun cdv A' outer s H vs Q E hr h => ?_), b, F.kp⟩
  · obtain ⟨m, cs, fs, rfl, _⟩ := h
    rfl
  · obtain ⟨m, cs, fs, rfl, ⟨dm, cl, tl, cas, tas, M⟩, f3, ok, k1, k2⟩ := h
    have hu := hu_of hr
    refine ⟨_, pss_cons (ps_set (i := 1) scFo.nd rfl (Or.inr rfl) pe_dnewT)
      (pss_cons (ps_for PassesOwn.never rfl (pi_list (pe_fld (pv 0) rfl)) (pg_name (i := 2) scFo.nd rfl (Or.inl rfl))
        (pss_one (ps_for PassesOwn.never rfl (pi_list (pe_call GS hr (by rfl) T.gsides kS bS .nil pass0 (pa_cons (pv 2) pa_nil))) (pg_name (i := 3) scFo.nd rfl (Or.inl rfl))
          (pss_one (ps_dput hu (pv 1) (pv 3) (pe_op op_add (pe_dget2 hu (pv 1) (pv 3) pe_int ⟨rfl, rfl, rfl, rfl⟩) pe_int) rfl)))))
      (pss_one (ps_ret (pe_callBK (cr_minDT rfl hu) (by rfl) T.min boot_mn (pa_cons (pe_lock (pe_lc (own := [("side", 3)]) rfl scFo.nd (pi_keys (pv 1)) (blkOk_at (N := ["mesh", "counts", "triangle", "side"]) (sc := defScope sfirst_odd_side) (by decide +kernel)) (fun _ _ _ _ _ => pg_name (i := 3) scFo.nd rfl (Or.inl rfl))
          (fun _ _ _ _ _ => pts_one (pt_cmpR op_eq (pe_op op_mod (pe_dget hu (pv 1) (pv 3) (fun _ _ => rfl)) pe_int) pe_int (nomark _))) (fun _ _ _ _ _ => pv 3))) pa_nil) (pk_cons pe_non pk_nil))))), ?_⟩
    intro d nd
    have dm_ : ∀ {H' : Hp}, Same (upd H d (.dT [])) H' → True := fun _ => trivial
    have s0 : Same H (upd H d (.dT [])) := fun b o q => by
      rw [upd_ne (ne_of_none q nd)]
      exact q
    have M0 := M.same s0
    have hfl : fs.length ≤ 128 := by
      have := ok.fl
      rw [show (meshOf cs fs).faces.length = fs.length from List.length_map _] at this
      exact this
    refine ⟨_, rfl, m, A.cM, dm, _, _, rfl, M0.ins, T.cM, T.nMt, mf_t cl tl, tl, rfl, ⟨_, SqL.of M0.t⟩, for_list (K := K) (a := tl) (xs := tas.map V.ref)
      (fun i σ H' => ∃ (kvs : List (List Key × V)) (v2 v3 : Option V), σ = [some (.ref m), some (.ref d), v2, v3] ∧ H' d = some (.dT kvs) ∧ Cnt kvs (done fs i) ∧ Same H H') ⟨[], none, none, rfl, upd_same, Cnt.nil, s0⟩ ?_ ?_ ?_⟩
    · rintro i σ H' _ ⟨_, _, _, _, _, _, s1⟩
      exact SqL.of (s1 _ _ M.t)
    · rintro i x σ H1 hx ⟨kvs, v2, v3, rfl, hd, C, s1⟩
      obtain ⟨t, ht, rfl⟩ := refs_at hx
      obtain ⟨row, hrow, htr⟩ := M.tT.at_ i ht
      have r3 : row.length = 3 := f3 row (List.mem_of_getElem? hrow)
      have hi : i < 128 := Nat.lt_of_lt_of_le (List.getElem?_eq_some_iff.mp hrow).1 hfl
      refine ⟨_, rfl, t, row, rfl, SqT.of (s1 _ _ htr), r3, fun H2 p ts hp hts hpr s2 => ?_⟩
      refine ⟨p, rfl, ⟨_, SqL.of hp⟩, for_list (K := K) (a := p) (xs := ts.map V.ref)
        (fun j σ H' => ∃ (kvs : List (List Key × V)) (v3 : Option V), σ = [some (.ref m), some (.ref d), some (.ref t), v3] ∧ H' d = some (.dT kvs) ∧ Cnt kvs (done fs i ++ (MM.pairs (MM.faceOf row)).take j) ∧ (∀ b o, H2 b = some o → b ≠ d → H' b = some o) ∧ j ≤ 3) ⟨kvs, v3, rfl, s2 _ _ hd, ?_, fun b o q _ => q, by omega⟩ ?_ ?_ ?_⟩
      · rw [List.take_zero, List.append_nil]
        exact C
      · rintro j σ H' _ ⟨_, _, _, _, _, k3, _⟩
        exact SqL.of (k3 _ _ hp (ne_of hp (s2 _ _ hd) (by intro z; cases z)))
      · rintro j y σ H3 hy ⟨kvs3, v3', rfl, hd3, C3, k3, hj⟩
        obtain ⟨sa, hsa, rfl⟩ := refs_at hy
        have hj3 : j < 3 := by
          rw [← hts]
          exact (List.getElem?_eq_some_iff.mp hsa).1
        obtain ⟨q, hq⟩ : ∃ q, (MM.pairs (MM.faceOf row))[j]? = some q := ⟨_, List.getElem?_eq_getElem hj3⟩
        have hsa2 := hpr j sa q hsa hq
        have hsa3 : H3 sa = some (.tup ((kk q).map kV)) := k3 _ _ hsa2 (ne_of hsa2 (s2 _ _ hd) (by intro z; cases z))
        have hg := DGet.t hd3 hsa3
        have hval := C3.val q
        have hlen : kvs3.length < sizeLine := by
          refine Nat.lt_of_le_of_lt C3.len ?_
          rw [List.length_append, List.length_take]
          have h1 := done_len fs i
          exact Nat.lt_of_le_of_lt (by omega : _ ≤ 500) (by show 500 < sizeLine; decide)
        refine ⟨_, rfl, d, rfl, .inr ⟨_, .inl hd3⟩, _, rfl, _, hg, ?_⟩
        have hget : (valV kvs3 (kk q)).getD (.int 0) = .int ((done fs i ++ (MM.pairs (MM.faceOf row)).take j).count q : Int) := by
          rw [hval]
          split
          · rename_i z
            rw [z]
            rfl
          · rfl
        rw [hget]
        refine ⟨_, _, rfl, rfl, _, rfl, _, rfl, d, _, rfl, DPut.t hd3 hsa3 hlen, ?_⟩
        refine ⟨_, _, rfl, upd_same, ?_, fun b o z nb => ?_, hj3⟩
        · rw [take_more hq, ← List.append_assoc]
          exact C3.put q
        · rw [upd_ne nb]
          exact k3 b o z nb
      · rintro σ H3 ⟨kvs3, v3', rfl, hd3, C3, k3, _⟩
        refine ⟨kvs3, _, _, rfl, hd3, ?_, fun b o z => k3 b o (s2 _ _ (s1 _ _ z)) (ne_of_none z nd)⟩
        rw [List.length_map, hts, List.take_of_length_le (show (MM.pairs (MM.faceOf row)).length ≤ 3 from Nat.le_refl _)] at C3
        rw [done_next hrow]
        exact C3
    · rintro σ H1 ⟨kvs, v2, v3, rfl, hd, C, s1⟩
      rw [List.length_map, M.tT.len] at C
      generalize hL : done fs fs.length = L at C
      have eL : ((meshOf cs fs).faces.map MM.pairs).flatten = L := by
        rw [← hL]
        unfold done
        rw [List.take_length]
        rfl
      have eC : ∀ i j, MM.cnt (meshOf cs fs).faces i j = L.count (i, j) := fun i j => by
        unfold MM.cnt
        rw [eL]
      refine ⟨d, _, hd, trivial, fun od => ?_⟩
      have fd0 : upd H1 d (.frz od (.dT kvs)) d = some (.frz od (.dT kvs)) := upd_same
      refine ⟨_, rfl, d, od, rfl, .inr ⟨kvs, fd0, fun D hD => lc_keysT
        (fun j H' => H' d = some (.frz od (.dT kvs)) ∧ (∀ b o, upd H1 d (.frz od (.dT kvs)) b = some o → H' b = some o) ∧ ∃ (ts : List Addr) (rows : List (Nat × Nat)), H' D = some (.lst (ts.map V.ref)) ∧ ts.length = rows.length ∧ ts.length ≤ j ∧
          (∀ (i : Nat) t q, ts[i]? = some t → rows[i]? = some q → H' t = some (.tup [nV q.1, nV q.2]) ∧ q ∈ L ∧ L.count q % 2 = 1) ∧ (∀ (i : Nat) e q, i < j → kvs[i]? = some e → e.1 = kk q → L.count q % 2 = 1 → q ∈ rows)) ?_ ?_ ?_ ?_⟩⟩
      · refine ⟨?_, fun b o q => ?_, [], [], upd_same, rfl, Nat.le_refl _, fun i t q e => by simp at e, fun i e q hi => by omega⟩
        · rw [upd_ne (ne_of_none fd0 hD)]
          exact fd0
        · rw [upd_ne (ne_of_none q hD)]
          exact q
      · rintro j H' _ ⟨p1, _⟩
        exact p1
      · rintro j kx v qa H2 hkx hqa ⟨p1, p2, ts, rows, p3, p4, p5, p6, p7⟩
        obtain ⟨q, ek, hq⟩ := C.key _ (List.mem_of_getElem? hkx)
        have ek' : kx = kk q := ek
        subst ek'
        have hc0 : L.count q ≠ 0 := by
          have := List.count_pos_iff.mpr hq
          omega
        have hval : valV kvs (kk q) = some (.int (L.count q : Int)) := by
          rw [C.val q, if_neg hc0]
        have hg : DGet H2 d (.ref qa) (some (.int (L.count q : Int))) := .inr ⟨kvs, kk q, qa, .inr ⟨od, p1⟩, rfl, hqa, hval.symm⟩
        refine ⟨rfl, ?_⟩
        refine ⟨_, rfl, _, rfl, d, _, rfl, hg, _, _, rfl, rfl, (by show (0 : Int) < 2; decide), rfl, _, rfl, ?_⟩
        by_cases ho : L.count q % 2 = 1
        · rw [decide_eq_true (show V.int ((L.count q : Int) % 2) = V.int 1 by congr 1; omega)]; refine iteT ?_
          refine ⟨_, rfl, _, p3, ?_, ?_, fun b o z => ?_, ts ++ [qa], rows ++ [q], ?_, ?_, ?_, fun i t q' e1 e2 => ?_, fun i e q' hi he1 he2 ho' => ?_⟩
          · rw [List.length_map]
            have h1 := C.len
            have h2 := done_len fs fs.length
            rw [hL] at h2
            have h4 : j < kvs.length := (List.getElem?_eq_some_iff.mp hkx).1
            exact Nat.lt_of_le_of_lt (by omega : _ ≤ 500) (by show 500 < sizeLine; decide)
          · rw [upd_ne (ne_of p1 p3 (by intro z; cases z))]
            exact p1
          · rw [upd_ne (ne_of_none z hD)]
            exact p2 _ _ z
          · rw [upd_same, List.map_append]
            rfl
          · rw [List.length_append, List.length_append, p4]
            rfl
          · rw [List.length_append, List.length_singleton]
            omega
          · by_cases hi : i < ts.length
            · rw [List.getElem?_append_left hi] at e1
              rw [List.getElem?_append_left (by omega)] at e2
              obtain ⟨z1, z2, z3⟩ := p6 i t q' e1 e2
              refine ⟨?_, z2, z3⟩
              rw [upd_ne (ne_of z1 p3 (by intro z; cases z))]
              exact z1
            · have hi' : i = ts.length := by
                have := (List.getElem?_eq_some_iff.mp e1).1
                rw [List.length_append, List.length_singleton] at this
                omega
              subst hi'
              rw [List.getElem?_append_right (Nat.le_refl _), Nat.sub_self] at e1
              rw [p4, List.getElem?_append_right (Nat.le_refl _), Nat.sub_self] at e2
              cases e1
              cases e2
              refine ⟨?_, hq, ho⟩
              rw [upd_ne (ne_of hqa p3 (by intro z; cases z))]
              exact hqa
          · by_cases hi' : i < j
            · exact List.mem_append_left _ (p7 i e q' hi' he1 he2 ho')
            · have e0 : i = j := by omega
              subst e0
              rw [hkx] at he1
              cases he1
              rw [kk_inj (ek.symm.trans he2)]
              exact List.mem_append_right _ (List.mem_singleton.mpr rfl)
        · have ho2 : ¬ V.int ((L.count q : Int) % 2) = V.int 1 := fun z => by
            injection z with z1
            omega
          rw [decide_eq_false ho2]; refine iteF ?_
          refine ⟨p1, p2, ts, rows, p3, p4, by omega, p6, fun i e q' hi he1 he2 ho' => ?_⟩
          by_cases hi' : i < j
          · exact p7 i e q' hi' he1 he2 ho'
          · have e0 : i = j := by omega
            subst e0
            rw [hkx] at he1
            cases he1
            rw [kk_inj (ek.symm.trans he2)] at ho
            exact absurd ho' ho
      · rintro H2 ⟨p1, p2, ts, rows, p3, p4, p5, p6, p7⟩
        refine ⟨p1, ?_⟩
        have odd_in : ∀ q, q ∈ L → L.count q % 2 = 1 → q ∈ rows := fun q hq ho => by
          have hv : valV kvs (kk q) = some (.int (L.count q : Int)) := by
            rw [C.val q, if_neg (by omega)]
          obtain ⟨e, he, e1⟩ := List.mem_map.mp (valV_in hv)
          obtain ⟨i, hi, e2⟩ := List.mem_iff_getElem.mp he
          exact p7 i e q hi (by rw [List.getElem?_eq_getElem hi, e2]) e1 ho
        have nD : D ≠ d := ne_of p3 p1 (by intro z; cases z)
        have s2 : Same H (upd H2 d (.dT kvs)) := fun b o z => by
          have nb : b ≠ d := ne_of_none z nd
          rw [upd_ne nb]
          refine p2 b o ?_
          rw [upd_ne nb]
          exact s1 _ _ z
        have key : ∀ (i : Nat) t q, ts[i]? = some t → rows[i]? = some q → upd H2 d (.dT kvs) t = some (.tup [nV q.1, nV q.2]) := fun i t q e1 e2 => by
          have z := (p6 i t q e1 e2).1
          rw [upd_ne (ne_of z p1 (by intro z; cases z))]
          exact z
        refine ⟨D, ts, rows.map fun q => [(q.1 : Int), (q.2 : Int)], .non, rfl, rfl, SqL.of (by rw [upd_ne nD]; exact p3), by rw [List.length_map]; exact p4, fun i t row e1 e2 => ?_, fun e => ?_, fun i t row e1 e2 mn => ?_⟩
        · rw [List.getElem?_map] at e2
          obtain ⟨q, e3, rfl⟩ := Option.map_eq_some_iff.mp e2
          exact SqT.of (key i t q e1 e3)
        · refine k1 (MM.open_none ok fun i j hm ho => ?_) _ s2
          rw [eL] at hm
          rw [eC] at ho
          have := odd_in (i, j) hm ho
          rw [List.map_eq_nil_iff.mp e] at this
          cases this
        · rw [List.getElem?_map] at e2
          obtain ⟨q, e3, rfl⟩ := Option.map_eq_some_iff.mp e2
          obtain ⟨_, z2, z3⟩ := p6 i t q e1 e3
          refine k2 q (MM.open_some ok (by rw [eL]; exact z2) (by rw [eC]; exact z3) fun a' b' hm ho => ?_) _ t (key i t q e1 e3) s2
          rw [eL] at hm
          rw [eC] at ho
          have z := mn _ (List.mem_map.mpr ⟨(a', b'), odd_in _ hm ho, rfl⟩)
          rw [lex2, decide_eq_false_iff_not] at z
          exact z
end
/-! ### tuples in lists -/
def RowsAt (H : Hp) (as : List Addr) (rows : List (List V)) : Prop := as.length = rows.length ∧ ∀ (i : Nat) a r, as[i]? = some a → rows[i]? = some r → H a = some (.tup r)
theorem RowsAt.nil {H : Hp} : RowsAt H [] [] := ⟨rfl, fun i a r e => by simp at e⟩
theorem RowsAt.mono {H H' : Hp} {as : List Addr} {rows : List (List V)} (h : RowsAt H as rows) (k : ∀ b ys, H b = some (.tup ys) → H' b = some (.tup ys)) : RowsAt H' as rows := ⟨h.1, fun i a r e1 e2 => k _ _ (h.2 i a r e1 e2)⟩
theorem RowsAt.same {H H' : Hp} {as : List Addr} {rows : List (List V)} (h : RowsAt H as rows) (k : Same H H') : RowsAt H' as rows := h.mono fun _ _ e => k _ _ e
theorem RowsAt.append {H : Hp} {as bs : List Addr} {rows more : List (List V)} (h : RowsAt H as rows) (h' : RowsAt H bs more) : RowsAt H (as ++ bs) (rows ++ more) := by
  refine ⟨by rw [List.length_append, List.length_append, h.1, h'.1], fun i a r e1 e2 => ?_⟩
  by_cases hi : i < as.length
  · rw [List.getElem?_append_left hi] at e1
    rw [List.getElem?_append_left (by rw [← h.1]; exact hi)] at e2
    exact h.2 i a r e1 e2
  · rw [List.getElem?_append_right (by omega)] at e1
    rw [List.getElem?_append_right (by rw [← h.1]; omega), ← h.1] at e2
    exact h'.2 _ a r e1 e2
theorem RowsAt.one {H : Hp} {a : Addr} {r : List V} (h : H a = some (.tup r)) : RowsAt H [a] [r] := ⟨rfl, fun i b s e1 e2 => by
  cases i with
  | zero =>
    simp at e1 e2
    rw [← e1, ← e2]
    exact h
  | succ i => simp at e1⟩
/-! ### places, triangles in the heap -/
def ptV (p : Bead.Pt) : List V := [.int p.x, .int p.y, .int p.z]
def PtAt (H : Hp) (a : Addr) (p : Bead.Pt) : Prop := H a = some (.tup (ptV p))
theorem pt_ix (p : Bead.Pt) {i : Nat} (h : i < 3) : atI (ptV p) (i : Int) = some (.int (RY.co p i)) := by
  refine atI_nat ?_
  match i, h with
  | 0, _ => rfl
  | 1, _ => rfl
  | 2, _ => rfl
def TriAt (H : Hp) (a : Addr) (t : Bead.Pt × Bead.Pt × Bead.Pt) : Prop := ∃ pa pb pc : Addr, H a = some (.tup [.ref pa, .ref pb, .ref pc]) ∧ PtAt H pa t.1 ∧ PtAt H pb t.2.1 ∧ PtAt H pc t.2.2
theorem TriAt.mono {H H' : Hp} {a : Addr} {t : Bead.Pt × Bead.Pt × Bead.Pt} (h : TriAt H a t) (k : ∀ b ys, H b = some (.tup ys) → H' b = some (.tup ys)) : TriAt H' a t := by
  obtain ⟨pa, pb, pc, h1, h2, h3, h4⟩ := h
  exact ⟨pa, pb, pc, k _ _ h1, k _ _ h2, k _ _ h3, k _ _ h4⟩
theorem TriAt.same {H H' : Hp} {a : Addr} {t : Bead.Pt × Bead.Pt × Bead.Pt} (h : TriAt H a t) (k : Same H H') : TriAt H' a t := h.mono fun _ _ e => k _ _ e
def TrisAt (H : Hp) (as : List Addr) (l : List (Bead.Pt × Bead.Pt × Bead.Pt)) : Prop := as.length = l.length ∧ ∀ (i : Nat) a t, as[i]? = some a → l[i]? = some t → TriAt H a t
theorem TrisAt.nil {H : Hp} : TrisAt H [] [] := ⟨rfl, fun i a t e => by simp at e⟩
theorem TrisAt.mono {H H' : Hp} {as : List Addr} {l : List (Bead.Pt × Bead.Pt × Bead.Pt)} (h : TrisAt H as l) (k : ∀ b ys, H b = some (.tup ys) → H' b = some (.tup ys)) : TrisAt H' as l := ⟨h.1, fun i a t e1 e2 => (h.2 i a t e1 e2).mono k⟩
theorem TrisAt.same {H H' : Hp} {as : List Addr} {l : List (Bead.Pt × Bead.Pt × Bead.Pt)} (h : TrisAt H as l) (k : Same H H') : TrisAt H' as l := h.mono fun _ _ e => k _ _ e
theorem TrisAt.snoc {H : Hp} {as : List Addr} {l : List (Bead.Pt × Bead.Pt × Bead.Pt)} {a : Addr} {t : Bead.Pt × Bead.Pt × Bead.Pt} (h : TrisAt H as l) (ht : TriAt H a t) : TrisAt H (as ++ [a]) (l ++ [t]) := by
  refine ⟨by rw [List.length_append, List.length_append, h.1]; rfl, fun i b u e1 e2 => ?_⟩
  by_cases hi : i < as.length
  · rw [List.getElem?_append_left hi] at e1
    rw [List.getElem?_append_left (by rw [← h.1]; exact hi)] at e2
    exact h.2 i b u e1 e2
  · have hi' : i = as.length := by
      have := (List.getElem?_eq_some_iff.mp e1).1
      rw [List.length_append, List.length_singleton] at this
      omega
    subst hi'
    rw [List.getElem?_append_right (Nat.le_refl _), Nat.sub_self] at e1
    rw [h.1, List.getElem?_append_right (Nat.le_refl _), Nat.sub_self] at e2
    cases e1
    cases e2
    exact ht
theorem TrisAt.at_ {H : Hp} {as : List Addr} {l : List (Bead.Pt × Bead.Pt × Bead.Pt)} {i : Nat} {a : Addr} (h : TrisAt H as l) (e : as[i]? = some a) : ∃ t, l[i]? = some t ∧ TriAt H a t := by
  have hi : i < l.length := by
    rw [← h.1]
    exact (List.getElem?_eq_some_iff.mp e).1
  exact ⟨l[i], List.getElem?_eq_getElem hi, h.2 i a _ e (List.getElem?_eq_getElem hi)⟩
structure Wid (p : Bead.Pt) : Prop where
  x1 : -1000000 ≤ p.x
  x2 : p.x ≤ 1000000
  y1 : -1000000 ≤ p.y
  y2 : p.y ≤ 1000000
  z1 : -1000000 ≤ p.z
  z2 : p.z ≤ 1000000
theorem wid_sub {a b : Bead.Pt} (ha : RY.Near a) (hb : RY.Near b) : Wid (a.sub b) := by
  obtain ⟨a1, a2, a3, a4, a5, a6⟩ := ha
  obtain ⟨b1, b2, b3, b4, b5, b6⟩ := hb
  refine ⟨?_, ?_, ?_, ?_, ?_, ?_⟩ <;> unfold Bead.Pt.sub <;> dsimp only <;> omega
theorem sgn_small : ∀ l : List Int, -1 ≤ Bead.sgn l ∧ Bead.sgn l ≤ 1
  | [] => by decide
  | v :: l => by
    unfold Bead.sgn
    split
    · exact sgn_small l
    · split <;> decide
section
variable {P : Program} {w : World} {K : PySem.W.Frag} {mg : Str → Option Value} {base : Heap} {A : Adr}
/-! ### first_sign -/
def spFs : Sp := fun vs H Q _ => ∃ (t : Addr) (ns : List Int), vs = [.ref t] ∧ H t = some (.tup (ns.map V.int)) ∧ Q (.int (Bead.sgn ns)) H
theorem scFs : FnScope ["numbers", "number"] ["numbers"] (defScope sfirst_sign) := ⟨rfl, rfl, rfl, by decide +kernel, rfl, by decide +kernel, by decide +kernel⟩
theorem ok_fs (T : Txt K mg A) : ∃ fd, FnOk P w K mg base CX0 1 A.ffirst_sign fd ["numbers"] spFs ∧ Binds K fd ["numbers"] [] ∧ PySem.W.keepIn K (.ref A.ffirst_sign) = true := by
  obtain ⟨fd, F, b⟩ := T.bfirst_sign
  refine ⟨fd, F.ok scFs (fun vs H Q E h => ?_) (fun cdv A' outer s H vs Q E hr h => ?_), b, F.kp⟩
  · obtain ⟨t, ns, rfl, _⟩ := h
    rfl
  · obtain ⟨t, ns, rfl, ht, k⟩ := h
    refine ⟨_, pss_cons (ps_for PassesOwn.never rfl (pi_tup (pv 0)) (pg_name (i := 1) scFs.nd rfl (Or.inl rfl))
        (pss_cons (ps_if (pt_cmpR op_gt (pv 1) pe_int (nomark _)) (pss_one (ps_ret pe_int)) pss_nil)
        (pss_one (ps_if (pt_cmpR op_lt (pv 1) pe_int (nomark _)) (pss_one (ps_ret (pe_un un_neg pe_int))) pss_nil))))
      (pss_one (ps_ret pe_int)), ?_⟩
    refine ⟨_, rfl, t, rfl, ⟨_, SqT.of ht⟩, for_tup (K := K) (a := t) (xs := ns.map V.int) (fun i σ H' => ∃ v1, σ = [some (.ref t), v1] ∧ H' = H ∧ Bead.sgn ns = Bead.sgn (ns.drop i)) ⟨none, rfl, rfl, rfl⟩ ?_ ?_ ?_⟩
    · rintro i σ H' _ ⟨_, _, rfl, _⟩
      exact SqT.of ht
    · rintro i y σ H' hy ⟨v1, rfl, rfl, hsg⟩
      rw [List.getElem?_map] at hy
      obtain ⟨n, hn, rfl⟩ := Option.map_eq_some_iff.mp hy
      have hi : i < ns.length := (List.getElem?_eq_some_iff.mp hn).1
      have hdr : ns.drop i = n :: ns.drop (i + 1) := by
        rw [List.drop_eq_getElem_cons hi]
        congr 1
        rw [List.getElem?_eq_getElem hi] at hn
        exact Option.some.inj hn
      rw [hdr, Bead.sgn] at hsg
      refine ⟨_, rfl, _, _, rfl, rfl, _, rfl, ?_⟩
      by_cases h1 : (0 : Int) < n
      · rw [decide_eq_true h1]; refine iteT ?_
        rw [hsg, if_neg (by omega), if_pos h1] at k
        exact k
      · rw [decide_eq_false h1]; refine iteF ?_
        refine ⟨_, rfl, _, _, rfl, rfl, _, rfl, ?_⟩
        by_cases h2 : n < (0 : Int)
        · rw [decide_eq_true h2]; refine iteT ?_
          rw [hsg, if_neg (by omega), if_neg h1] at k
          exact ⟨_, rfl, k⟩
        · rw [decide_eq_false h2]; refine iteF ?_
          rw [if_pos (by omega)] at hsg
          exact ⟨_, rfl, rfl, hsg⟩
    · rintro σ H' ⟨v1, rfl, rfl, hsg⟩
      rw [List.length_map, List.drop_length] at hsg
      rw [hsg] at k
      exact k
/-! ### side_sign -/
def spSs : Sp := fun vs H Q _ => ∃ (aa ab ap : Addr) (a b p : Bead.Pt) (u v : Nat), vs = [.ref aa, .ref ab, .ref ap, .int (u : Int), .int (v : Int)] ∧ PtAt H aa a ∧ PtAt H ab b ∧ PtAt H ap p ∧ u < 3 ∧ v < 3 ∧ RY.Near a ∧ RY.Near b ∧ ∀ H' : Hp, Same H H' → Q (.int (RY.sd a b p u v)) H'
theorem scSs : FnScope ["a", "b", "p", "u", "v", "du", "dv"] ["a", "b", "p", "u", "v"] (defScope sside_sign) := ⟨rfl, rfl, rfl, by decide +kernel, rfl, by decide +kernel, by decide +kernel⟩
theorem ok_ss (T : Txt K mg A) : ∃ fd, FnOk P w K mg base CX0 2 A.fside_sign fd ["a", "b", "p", "u", "v"] spSs ∧ Binds K fd ["a", "b", "p", "u", "v"] [] ∧ PySem.W.keepIn K (.ref A.fside_sign) = true := by
  obtain ⟨fd, F, b⟩ := T.bside_sign
  obtain ⟨fdS, GS, bS, kS⟩ := ok_fs (P := P) (w := w) (base := base) T
  refine ⟨fd, F.ok scSs (fun vs H Q E h => ?_) (fun cdv A' outer s H vs Q E hr h => ?_), b, F.kp⟩
  · obtain ⟨aa, ab, ap, a, b, p, u, v, rfl, _⟩ := h
    rfl
  · obtain ⟨aa, ab, ap, a, b', p, u, v, rfl, ha, hb, hp, hu, hv, na, nb, k⟩ := h
    have qa := SqT.of (K := K) ha
    have qb := SqT.of (K := K) hb
    have qp := SqT.of (K := K) hp
    have au := na.co u
    have av := na.co v
    have bu := nb.co u
    have bv := nb.co v
    refine ⟨_, pss_cons (ps_set (i := 5) scSs.nd rfl (Or.inl rfl) (pe_op op_sub (pe_ix ix_tup (pv 1) (pv 3) (fun _ _ => rfl)) (pe_ix ix_tup (pv 0) (pv 3) (fun _ _ => rfl))))
      (pss_cons (ps_set (i := 6) scSs.nd rfl (Or.inl rfl) (pe_op op_sub (pe_ix ix_tup (pv 1) (pv 4) (fun _ _ => rfl)) (pe_ix ix_tup (pv 0) (pv 4) (fun _ _ => rfl))))
      (pss_one (ps_ret (pe_call GS hr (by rfl) T.gfirst_sign kS bS .nil pass0 (pa_cons (pe_tup (pa_cons (pe_op op_sub (pe_op op_mul (pv 5) (pe_op op_sub (pe_ix ix_tup (pv 2) (pv 4) (fun _ _ => rfl)) (pe_ix ix_tup (pv 0) (pv 4) (fun _ _ => rfl)))) (pe_op op_mul (pv 6) (pe_op op_sub (pe_ix ix_tup (pv 2) (pv 3) (fun _ _ => rfl)) (pe_ix ix_tup (pv 0) (pv 3) (fun _ _ => rfl))))) (pa_cons (pe_un un_neg (pv 6)) (pa_cons (pv 5) pa_nil)))) pa_nil))))), ?_⟩
    refine ⟨_, rfl, _, rfl, ab, _, _, _, rfl, rfl, qb, pt_ix b' hu, _, rfl, _, rfl, aa, _, _, _, rfl, rfl, qa, pt_ix a hu, _, _, rfl, rfl, ?_⟩
    refine ⟨_, rfl, _, rfl, ab, _, _, _, rfl, rfl, qb, pt_ix b' hv, _, rfl, _, rfl, aa, _, _, _, rfl, rfl, qa, pt_ix a hv, _, _, rfl, rfl, ?_⟩
    refine ⟨_, rfl, _, rfl, _, rfl, ap, _, _, _, rfl, rfl, qp, pt_ix p hv, _, rfl, _, rfl, aa, _, _, _, rfl, rfl, qa, pt_ix a hv, _, _, rfl, rfl, _, _, rfl, rfl, .inl ⟨by omega, by omega⟩,
      _, rfl, _, rfl, _, rfl, ap, _, _, _, rfl, rfl, qp, pt_ix p hu, _, rfl, _, rfl, aa, _, _, _, rfl, rfl, qa, pt_ix a hu, _, _, rfl, rfl, _, _, rfl, rfl, .inl ⟨by omega, by omega⟩, _, _, rfl, rfl,
      _, rfl, _, rfl, _, rfl, (by show 3 ≤ sizeLine; decide), fun t nt => ?_⟩
    exact ⟨t, RY.sideL a b' p u v, rfl, upd_same, k _ (Same.new nt)⟩
/-! ### is_crossed -/
def spIc : Sp := fun vs H Q _ => ∃ (aq ap : Addr) (t : Bead.Pt × Bead.Pt × Bead.Pt) (p : Bead.Pt) (ax : Nat), vs = [.ref aq, .ref ap, .int (ax : Int)] ∧ TriAt H aq t ∧ PtAt H ap p ∧ RY.Trip t ∧ ax < 3 ∧ ∀ H' : Hp, Same H H' → Q (.bl (Bead.metBy (RY.axOf ax) t.1 t.2.1 t.2.2 p)) H'
theorem scIc : FnScope ["triangle", "p", "axis", "u", "v", "sign"] ["triangle", "p", "axis"] (defScope sis_crossed) := ⟨rfl, rfl, rfl, by decide +kernel, rfl, by decide +kernel, by decide +kernel⟩
theorem int_eq (a b : Int) : decide (V.int a = V.int b) = decide (a = b) := by
  rw [decide_eq_decide]
  constructor
  · intro z
    injection z
  · rintro rfl
    rfl
theorem ok_ic (T : Txt K mg A) : ∃ fd, FnOk P w K mg base CX0 3 A.fis_crossed fd ["triangle", "p", "axis"] spIc ∧ Binds K fd ["triangle", "p", "axis"] [] ∧ PySem.W.keepIn K (.ref A.fis_crossed) = true := by
  obtain ⟨fd, F, b⟩ := T.bis_crossed
  obtain ⟨fdS, GS, bS, kS⟩ := ok_ss (P := P) (w := w) (base := base) T
  obtain ⟨aA, asA, gA, sA, lA, iA⟩ := T.t_AXES_ACROSS
  refine ⟨fd, F.ok scIc (fun vs H Q E h => ?_) (fun cdv A' outer s H vs Q E hr h => ?_), b, F.kp⟩
  · obtain ⟨aq, ap, t, p, ax, rfl, _⟩ := h
    rfl
  · obtain ⟨aq, ap, ⟨a, b', c⟩, p, ax, rfl, ⟨pa, pb, pc, ht, ha, hb, hc⟩, hp, ⟨na, nb, nc⟩, hax, k⟩ := h
    dsimp only at ha hb hc na nb nc k
    obtain ⟨hacr, hu, hv⟩ := RY.across_at hax
    obtain ⟨ra, hra⟩ : ∃ ra, asA[ax]? = some ra := ⟨_, List.getElem?_eq_getElem (show ax < asA.length by rw [lA]; exact hax)⟩
    have hrow := iA ax ra _ hra hacr
    refine ⟨_, pss_cons (ps_set (i := 3) scIc.nd rfl (Or.inl rfl) (pe_ix ix_tup (pe_ix ix_tup (pe_gref (by rfl) gA) (pv 2) (fun _ _ => rfl)) pe_int (fun _ _ => rfl)))
      (pss_cons (ps_set (i := 4) scIc.nd rfl (Or.inl rfl) (pe_ix ix_tup (pe_ix ix_tup (pe_gref (by rfl) gA) (pv 2) (fun _ _ => rfl)) pe_int (fun _ _ => rfl)))
      (pss_cons (ps_set (i := 5) scIc.nd rfl (Or.inl rfl) (pe_call GS hr (by rfl) T.gside_sign kS bS .nil pass0 (pa_cons (pe_ix ix_tup (pv 0) pe_int (fun _ _ => rfl)) (pa_cons (pe_ix ix_tup (pv 0) pe_int (fun _ _ => rfl)) (pa_cons (pv 1) (pa_cons (pv 3) (pa_cons (pv 4) pa_nil)))))))
      (pss_cons (ps_if (pw_or (pt_cmpR op_eq (pv 5) pe_int (nomark _)) (pw_or1 (pt_cmpR op_ne (pe_call GS hr (by rfl) T.gside_sign kS bS .nil pass0 (pa_cons (pe_ix ix_tup (pv 0) pe_int (fun _ _ => rfl)) (pa_cons (pe_ix ix_tup (pv 0) pe_int (fun _ _ => rfl)) (pa_cons (pv 1) (pa_cons (pv 3) (pa_cons (pv 4) pa_nil)))))) (pv 5) (nomark _)))).pt (pss_one (ps_ret pe_bl)) pss_nil)
      (pss_one (ps_ret (pe_cmpR op_eq (pe_call GS hr (by rfl) T.gside_sign kS bS .nil pass0 (pa_cons (pe_ix ix_tup (pv 0) pe_int (fun _ _ => rfl)) (pa_cons (pe_ix ix_tup (pv 0) pe_int (fun _ _ => rfl)) (pa_cons (pv 1) (pa_cons (pv 3) (pa_cons (pv 4) pa_nil)))))) (pv 5) (nomark _))))))), ?_⟩
    have hat : atI (asA.map V.ref) (ax : Int) = some (.ref ra) := atI_nat (by rw [List.getElem?_map, hra]; rfl)
    rw [← RY.crossed_is hax] at k
    unfold RY.crossB at k
    refine ⟨_, rfl, aA, _, _, .ref ra, rfl, rfl, sA _, hat, ra, _, _, .int ((RY.across ax).1 : Int), rfl, rfl, hrow _, rfl, ?_⟩
    refine ⟨_, rfl, aA, _, _, .ref ra, rfl, rfl, sA _, hat, ra, _, _, .int ((RY.across ax).2 : Int), rfl, rfl, hrow _, rfl, ?_⟩
    have qt := SqT.of (K := K) ht
    refine ⟨_, rfl, aq, _, _, .ref pa, rfl, rfl, qt, rfl, _, rfl, aq, _, _, .ref pb, rfl, rfl, qt, rfl, _, rfl, _, rfl, _, rfl, pa, pb, ap, a, b', p, (RY.across ax).1, (RY.across ax).2, rfl, ha, hb, hp, hu, hv, na, nb, fun H1 s1 => ?_⟩
    refine ⟨_, rfl, rfl, _, rfl, ?_⟩
    rw [int_eq]
    by_cases h0 : RY.sd a b' p (RY.across ax).1 (RY.across ax).2 = 0
    · rw [decide_eq_true h0]; refine iteT ?_
      refine iteT ?_
      have := k H1 s1
      rw [if_pos (.inl h0)] at this
      exact this
    · rw [decide_eq_false h0]; refine iteF ?_
      have qt1 := SqT.of (K := K) (s1 _ _ ht)
      refine ⟨_, rfl, aq, _, _, .ref pb, rfl, rfl, qt1, rfl, _, rfl, aq, _, _, .ref pc, rfl, rfl, qt1, rfl, _, rfl, _, rfl, _, rfl, pb, pc, ap, b', c, p, (RY.across ax).1, (RY.across ax).2, rfl, s1 _ _ hb, s1 _ _ hc, s1 _ _ hp, hu, hv, nb, nc, fun H2 s2 => ?_⟩
      refine ⟨_, rfl, rfl, _, rfl, ?_⟩
      rw [int_eq]
      by_cases h2 : RY.sd b' c p (RY.across ax).1 (RY.across ax).2 = RY.sd a b' p (RY.across ax).1 (RY.across ax).2
      · rw [decide_eq_true h2]; refine iteF ?_
        have s12 := s1.trans s2
        have qt2 := SqT.of (K := K) (s12 _ _ ht)
        refine ⟨_, rfl, aq, _, _, .ref pc, rfl, rfl, qt2, rfl, _, rfl, aq, _, _, .ref pa, rfl, rfl, qt2, rfl, _, rfl, _, rfl, _, rfl, pc, pa, ap, c, a, p, (RY.across ax).1, (RY.across ax).2, rfl, s12 _ _ hc, s12 _ _ ha, s12 _ _ hp, hu, hv, nc, na, fun H3 s3 => ?_⟩
        refine ⟨_, rfl, rfl, ?_⟩
        rw [int_eq]
        have := k H3 (s12.trans s3)
        rw [if_neg (fun z => z.elim h0 fun z => z h2)] at this
        exact this
      · rw [decide_eq_false h2]; refine iteT ?_
        have := k H2 (s1.trans s2)
        rw [if_pos (.inr h2)] at this
        exact this
/-! ### difference, dot, cross -/
def spDf : Sp := fun vs H Q _ => ∃ (aa ab : Addr) (a b : Bead.Pt), vs = [.ref aa, .ref ab] ∧ PtAt H aa a ∧ PtAt H ab b ∧ ∀ (H' : Hp) (t : Addr), PtAt H' t (a.sub b) → Same H H' → Q (.ref t) H'
theorem scDf : FnScope ["a", "b"] ["a", "b"] (defScope sdifference) := ⟨rfl, rfl, rfl, by decide +kernel, rfl, by decide +kernel, by decide +kernel⟩
theorem ok_df (T : Txt K mg A) : ∃ fd, FnOk P w K mg base CX0 1 A.fdifference fd ["a", "b"] spDf ∧ Binds K fd ["a", "b"] [] ∧ PySem.W.keepIn K (.ref A.fdifference) = true := by
  obtain ⟨fd, F, b⟩ := T.bdifference
  refine ⟨fd, F.ok scDf (fun vs H Q E h => ?_) (fun cdv A' outer s H vs Q E hr h => ?_), b, F.kp⟩
  · obtain ⟨aa, ab, a, b, rfl, _⟩ := h
    rfl
  · obtain ⟨aa, ab, a, b', rfl, ha, hb, k⟩ := h
    have qa := SqT.of (K := K) ha
    have qb := SqT.of (K := K) hb
    refine ⟨_, pss_one (ps_ret (pe_tup (pa_cons (pe_op op_sub (pe_ix ix_tup (pv 0) pe_int (fun _ _ => rfl)) (pe_ix ix_tup (pv 1) pe_int (fun _ _ => rfl))) (pa_cons (pe_op op_sub (pe_ix ix_tup (pv 0) pe_int (fun _ _ => rfl)) (pe_ix ix_tup (pv 1) pe_int (fun _ _ => rfl))) (pa_cons (pe_op op_sub (pe_ix ix_tup (pv 0) pe_int (fun _ _ => rfl)) (pe_ix ix_tup (pv 1) pe_int (fun _ _ => rfl))) pa_nil))))), ?_⟩
    refine ⟨_, rfl, aa, _, _, .int a.x, rfl, rfl, qa, rfl, _, rfl, ab, _, _, .int b'.x, rfl, rfl, qb, rfl, _, _, rfl, rfl, _, rfl, aa, _, _, .int a.y, rfl, rfl, qa, rfl, _, rfl, ab, _, _, .int b'.y, rfl, rfl, qb, rfl, _, _, rfl, rfl, _, rfl, aa, _, _, .int a.z, rfl, rfl, qa, rfl, _, rfl, ab, _, _, .int b'.z, rfl, rfl, qb, rfl, _, _, rfl, rfl, (by show 3 ≤ sizeLine; decide), fun t nt => ?_⟩
    exact k _ t upd_same (Same.new nt)
def spDt : Sp := fun vs H Q _ => ∃ (aa ab : Addr) (a b : Bead.Pt), vs = [.ref aa, .ref ab] ∧ PtAt H aa a ∧ PtAt H ab b ∧ Wid b ∧ Q (.int (a.dot b)) H
theorem scDt : FnScope ["a", "b"] ["a", "b"] (defScope sdot) := ⟨rfl, rfl, rfl, by decide +kernel, rfl, by decide +kernel, by decide +kernel⟩
theorem ok_dt (T : Txt K mg A) : ∃ fd, FnOk P w K mg base CX0 1 A.fdot fd ["a", "b"] spDt ∧ Binds K fd ["a", "b"] [] ∧ PySem.W.keepIn K (.ref A.fdot) = true := by
  obtain ⟨fd, F, b⟩ := T.bdot
  refine ⟨fd, F.ok scDt (fun vs H Q E h => ?_) (fun cdv A' outer s H vs Q E hr h => ?_), b, F.kp⟩
  · obtain ⟨aa, ab, a, b, rfl, _⟩ := h
    rfl
  · obtain ⟨aa, ab, a, b', rfl, ha, hb, ⟨w1, w2, w3, w4, w5, w6⟩, k⟩ := h
    have qa := SqT.of (K := K) ha
    have qb := SqT.of (K := K) hb
    refine ⟨_, pss_one (ps_ret (pe_op op_add (pe_op op_add (pe_op op_mul (pe_ix ix_tup (pv 0) pe_int (fun _ _ => rfl)) (pe_ix ix_tup (pv 1) pe_int (fun _ _ => rfl))) (pe_op op_mul (pe_ix ix_tup (pv 0) pe_int (fun _ _ => rfl)) (pe_ix ix_tup (pv 1) pe_int (fun _ _ => rfl)))) (pe_op op_mul (pe_ix ix_tup (pv 0) pe_int (fun _ _ => rfl)) (pe_ix ix_tup (pv 1) pe_int (fun _ _ => rfl))))), ?_⟩
    refine ⟨_, rfl, aa, _, _, .int a.x, rfl, rfl, qa, rfl, _, rfl, ab, _, _, .int b'.x, rfl, rfl, qb, rfl, _, _, rfl, rfl, .inr ⟨by omega, by omega⟩, _, rfl, aa, _, _, .int a.y, rfl, rfl, qa, rfl, _, rfl, ab, _, _, .int b'.y, rfl, rfl, qb, rfl, _, _, rfl, rfl, .inr ⟨by omega, by omega⟩, _, _, rfl, rfl,
      _, rfl, aa, _, _, .int a.z, rfl, rfl, qa, rfl, _, rfl, ab, _, _, .int b'.z, rfl, rfl, qb, rfl, _, _, rfl, rfl, .inr ⟨by omega, by omega⟩, _, _, rfl, rfl, ?_⟩
    dsimp only
    rw [Int.add_assoc]
    exact k
def spCr : Sp := fun vs H Q _ => ∃ (aa ab : Addr) (a b : Bead.Pt), vs = [.ref aa, .ref ab] ∧ PtAt H aa a ∧ PtAt H ab b ∧ Wid b ∧ ∀ (H' : Hp) (t : Addr), PtAt H' t (a.cross b) → Same H H' → Q (.ref t) H'
theorem scCr : FnScope ["a", "b"] ["a", "b"] (defScope scross) := ⟨rfl, rfl, rfl, by decide +kernel, rfl, by decide +kernel, by decide +kernel⟩
theorem ok_cr (T : Txt K mg A) : ∃ fd, FnOk P w K mg base CX0 1 A.fcross fd ["a", "b"] spCr ∧ Binds K fd ["a", "b"] [] ∧ PySem.W.keepIn K (.ref A.fcross) = true := by
  obtain ⟨fd, F, b⟩ := T.bcross
  refine ⟨fd, F.ok scCr (fun vs H Q E h => ?_) (fun cdv A' outer s H vs Q E hr h => ?_), b, F.kp⟩
  · obtain ⟨aa, ab, a, b, rfl, _⟩ := h
    rfl
  · obtain ⟨aa, ab, a, b', rfl, ha, hb, ⟨w1, w2, w3, w4, w5, w6⟩, k⟩ := h
    have qa := SqT.of (K := K) ha
    have qb := SqT.of (K := K) hb
    refine ⟨_, pss_one (ps_ret (pe_tup (pa_cons (pe_op op_sub (pe_op op_mul (pe_ix ix_tup (pv 0) pe_int (fun _ _ => rfl)) (pe_ix ix_tup (pv 1) pe_int (fun _ _ => rfl))) (pe_op op_mul (pe_ix ix_tup (pv 0) pe_int (fun _ _ => rfl)) (pe_ix ix_tup (pv 1) pe_int (fun _ _ => rfl)))) (pa_cons (pe_op op_sub (pe_op op_mul (pe_ix ix_tup (pv 0) pe_int (fun _ _ => rfl)) (pe_ix ix_tup (pv 1) pe_int (fun _ _ => rfl))) (pe_op op_mul (pe_ix ix_tup (pv 0) pe_int (fun _ _ => rfl)) (pe_ix ix_tup (pv 1) pe_int (fun _ _ => rfl)))) (pa_cons (pe_op op_sub (pe_op op_mul (pe_ix ix_tup (pv 0) pe_int (fun _ _ => rfl)) (pe_ix ix_tup (pv 1) pe_int (fun _ _ => rfl))) (pe_op op_mul (pe_ix ix_tup (pv 0) pe_int (fun _ _ => rfl)) (pe_ix ix_tup (pv 1) pe_int (fun _ _ => rfl)))) pa_nil))))), ?_⟩
    refine ⟨_, rfl, aa, _, _, .int a.y, rfl, rfl, qa, rfl, _, rfl, ab, _, _, .int b'.z, rfl, rfl, qb, rfl, _, _, rfl, rfl, .inr ⟨by omega, by omega⟩, _, rfl, aa, _, _, .int a.z, rfl, rfl, qa, rfl, _, rfl, ab, _, _, .int b'.y, rfl, rfl, qb, rfl, _, _, rfl, rfl, .inr ⟨by omega, by omega⟩, _, _, rfl, rfl,
      _, rfl, aa, _, _, .int a.z, rfl, rfl, qa, rfl, _, rfl, ab, _, _, .int b'.x, rfl, rfl, qb, rfl, _, _, rfl, rfl, .inr ⟨by omega, by omega⟩, _, rfl, aa, _, _, .int a.x, rfl, rfl, qa, rfl, _, rfl, ab, _, _, .int b'.z, rfl, rfl, qb, rfl, _, _, rfl, rfl, .inr ⟨by omega, by omega⟩, _, _, rfl, rfl,
      _, rfl, aa, _, _, .int a.x, rfl, rfl, qa, rfl, _, rfl, ab, _, _, .int b'.y, rfl, rfl, qb, rfl, _, _, rfl, rfl, .inr ⟨by omega, by omega⟩, _, rfl, aa, _, _, .int a.y, rfl, rfl, qa, rfl, _, rfl, ab, _, _, .int b'.x, rfl, rfl, qb, rfl, _, _, rfl, rfl, .inr ⟨by omega, by omega⟩, _, _, rfl, rfl, (by show 3 ≤ sizeLine; decide), fun t nt => ?_⟩
    exact k _ t upd_same (Same.new nt)
/-! ### is_ahead -/
def spIa : Sp := fun vs H Q _ => ∃ (aq ap : Addr) (t : Bead.Pt × Bead.Pt × Bead.Pt) (p : Bead.Pt) (lk : Nat), vs = [.ref aq, .ref ap, .int (lk : Int)] ∧ TriAt H aq t ∧ PtAt H ap p ∧ RY.Trip t ∧ RY.Near p ∧ lk < 6 ∧ ∀ H' : Hp, Same H H' → Q (.bl (RY.aheadB lk t.1 t.2.1 t.2.2 p)) H'
theorem scIa : FnScope ["triangle", "p", "look", "normal", "side"] ["triangle", "p", "look"] (defScope sis_ahead) := ⟨rfl, rfl, rfl, by decide +kernel, rfl, by decide +kernel, by decide +kernel⟩
theorem ok_ia (T : Txt K mg A) : ∃ fd, FnOk P w K mg base CX0 2 A.fis_ahead fd ["triangle", "p", "look"] spIa ∧ Binds K fd ["triangle", "p", "look"] [] ∧ PySem.W.keepIn K (.ref A.fis_ahead) = true := by
  obtain ⟨fd, F, b⟩ := T.bis_ahead
  obtain ⟨fdS, GS, bS, kS⟩ := ok_fs (P := P) (w := w) (base := base) T
  obtain ⟨fdD, GD, bD, kD⟩ := ok_df (P := P) (w := w) (base := base) T
  obtain ⟨fdT, GT, bT, kT⟩ := ok_dt (P := P) (w := w) (base := base) T
  obtain ⟨fdC, GC, bC, kC⟩ := ok_cr (P := P) (w := w) (base := base) T
  obtain ⟨aL, gL, sL⟩ := T.t_LOOK_AXES
  obtain ⟨aW, gW, sW⟩ := T.t_LOOK_WAYS
  refine ⟨fd, F.ok scIa (fun vs H Q E h => ?_) (fun cdv A' outer s H vs Q E hr h => ?_), b, F.kp⟩
  · obtain ⟨aq, ap, t, p, lk, rfl, _⟩ := h
    rfl
  · obtain ⟨aq, ap, ⟨a, b', c⟩, p, lk, rfl, ⟨pa, pb, pc, ht, ha, hb, hc⟩, hp, ⟨na, nb, nc⟩, np, hlk, k⟩ := h
    dsimp only at ha hb hc na nb nc k
    obtain ⟨l1, l2, l3, l4⟩ := RY.look_at hlk
    have hatL : atI (([2, 2, 0, 0, 1, 1] : List Int).map V.int) (lk : Int) = some (.int (RY.axLook lk : Int)) := atI_nat (by rw [List.getElem?_map, l1]; rfl)
    have hatW : atI (([1, -1, 1, -1, 1, -1] : List Int).map V.int) (lk : Int) = some (.int (RY.wayLook lk)) := atI_nat (by rw [List.getElem?_map, l2]; rfl)
    refine ⟨_, pss_cons (ps_set (i := 3) scIa.nd rfl (Or.inl rfl) (pe_call GC hr (by rfl) T.gcross kC bC .nil pass0 (pa_cons (pe_call GD hr (by rfl) T.gdifference kD bD .nil pass0 (pa_cons (pe_ix ix_tup (pv 0) pe_int (fun _ _ => rfl)) (pa_cons (pe_ix ix_tup (pv 0) pe_int (fun _ _ => rfl)) pa_nil))) (pa_cons (pe_call GD hr (by rfl) T.gdifference kD bD .nil pass0 (pa_cons (pe_ix ix_tup (pv 0) pe_int (fun _ _ => rfl)) (pa_cons (pe_ix ix_tup (pv 0) pe_int (fun _ _ => rfl)) pa_nil))) pa_nil))))
      (pss_cons (ps_set (i := 4) scIa.nd rfl (Or.inl rfl) (pe_call GS hr (by rfl) T.gfirst_sign kS bS .nil pass0 (pa_cons (pe_op op_catT (pe_tup (pa_cons (pe_call GT hr (by rfl) T.gdot kT bT .nil pass0 (pa_cons (pv 3) (pa_cons (pe_call GD hr (by rfl) T.gdifference kD bD .nil pass0 (pa_cons (pv 1) (pa_cons (pe_ix ix_tup (pv 0) pe_int (fun _ _ => rfl)) pa_nil))) pa_nil))) pa_nil)) (pv 3)) pa_nil)))
      (pss_one (ps_ret (pe_cmpR op_eq (pe_op op_mul (pv 4) (pe_call GS hr (by rfl) T.gfirst_sign kS bS .nil pass0 (pa_cons (pe_tup (pa_cons (pe_ix ix_tup (pv 3) (pe_ix ix_tup (pe_gref (by rfl) gL) (pv 2) (fun _ _ => rfl)) (fun _ _ => rfl)) pa_nil)) pa_nil))) (pe_un un_neg (pe_ix ix_tup (pe_gref (by rfl) gW) (pv 2) (fun _ _ => rfl))) (nomark _))))), ?_⟩
    have qt := SqT.of (K := K) ht
    refine ⟨_, rfl, aq, _, _, .ref pb, rfl, rfl, qt, rfl, _, rfl, aq, _, _, .ref pa, rfl, rfl, qt, rfl, pb, pa, b', a, rfl, hb, ha, fun H1 d1 hd1 s1 => ?_⟩
    have qt1 := SqT.of (K := K) (s1 _ _ ht)
    refine ⟨_, rfl, aq, _, _, .ref pc, rfl, rfl, qt1, rfl, _, rfl, aq, _, _, .ref pa, rfl, rfl, qt1, rfl, pc, pa, c, a, rfl, s1 _ _ hc, s1 _ _ ha, fun H2 d2 hd2 s2 => ?_⟩
    refine ⟨d1, d2, b'.sub a, c.sub a, rfl, s2 _ _ hd1, hd2, wid_sub nc na, fun H3 dn hn s3 => ?_⟩
    have s13 := s1.trans (s2.trans s3)
    have hn' : PtAt H3 dn (Bead.normal a b' c) := hn
    have qt3 := SqT.of (K := K) (s13 _ _ ht)
    refine ⟨_, rfl, _, rfl, _, rfl, aq, _, _, .ref pa, rfl, rfl, qt3, rfl, ap, pa, p, a, rfl, s13 _ _ hp, s13 _ _ ha, fun H4 d4 hd4 s4 => ?_⟩
    refine ⟨dn, d4, Bead.normal a b' c, p.sub a, rfl, s4 _ _ hn', hd4, wid_sub np na, (by show 1 ≤ sizeLine; decide), fun t1 n1 => ?_⟩
    have s5 := Same.new (o := HO.tup [V.int ((Bead.normal a b' c).dot (p.sub a))]) n1
    have hn5 := s5 _ _ (s4 _ _ hn')
    refine ⟨_, rfl, t1, dn, _, _, rfl, rfl, SqT.of upd_same, SqT.of hn5, (by intro z; cases z), (by show 1 + 3 ≤ sizeLine; decide), (by intro z; cases z), fun _ t2 n2 => ?_⟩
    have s6 := Same.new (o := HO.tup ([V.int ((Bead.normal a b' c).dot (p.sub a))] ++ ptV (Bead.normal a b' c))) n2
    refine ⟨t2, [(Bead.normal a b' c).dot (p.sub a), (Bead.normal a b' c).x, (Bead.normal a b' c).y, (Bead.normal a b' c).z], rfl, upd_same, ?_⟩
    have hn6 := s6 _ _ hn5
    refine ⟨_, rfl, _, rfl, _, rfl, aL, _, _, _, rfl, rfl, sL _, hatL, dn, _, _, _, rfl, rfl, SqT.of hn6, pt_ix _ l3, (by show 1 ≤ sizeLine; decide), fun t3 n3 => ?_⟩
    have s7 := Same.new (o := HO.tup [V.int (RY.co (Bead.normal a b' c) (RY.axLook lk))]) n3
    have sm := sgn_small [RY.co (Bead.normal a b' c) (RY.axLook lk)]
    refine ⟨t3, [RY.co (Bead.normal a b' c) (RY.axLook lk)], rfl, upd_same, _, _, rfl, rfl, .inr ⟨by omega, by omega⟩, _, rfl, aW, _, _, _, rfl, rfl, sW _, hatW, _, rfl, rfl, ?_⟩
    dsimp only
    have kk := k _ (s13.trans (s4.trans (s5.trans (s6.trans s7))))
    unfold RY.aheadB at kk
    rw [← int_eq] at kk
    exact kk
/-! ### doubled, doubled_triangles -/
def dbl : List Nat → Bead.Pt
  | [a, b, c] => ⟨2 * (a : Int), 2 * (b : Int), 2 * (c : Int)⟩
  | _ => ⟨0, 0, 0⟩
def spDd : Sp := fun vs H Q _ => ∃ (t : Addr) (x : List Nat), vs = [.ref t] ∧ H t = some (.tup (x.map nV)) ∧ MM.Pt3 x ∧ ∀ (H' : Hp) (p : Addr), PtAt H' p (dbl x) → Same H H' → Q (.ref p) H'
theorem scDd : FnScope ["corner"] ["corner"] (defScope sdoubled) := ⟨rfl, rfl, rfl, by decide +kernel, rfl, by decide +kernel, by decide +kernel⟩
theorem ok_dd (T : Txt K mg A) : ∃ fd, FnOk P w K mg base CX0 1 A.fdoubled fd ["corner"] spDd ∧ Binds K fd ["corner"] [] ∧ PySem.W.keepIn K (.ref A.fdoubled) = true := by
  obtain ⟨fd, F, b⟩ := T.bdoubled
  refine ⟨fd, F.ok scDd (fun vs H Q E h => ?_) (fun cdv A' outer s H vs Q E hr h => ?_), b, F.kp⟩
  · obtain ⟨t, x, rfl, _⟩ := h
    rfl
  · obtain ⟨t, x, rfl, ht, hx, k⟩ := h
    obtain ⟨a, b', c, rfl, h1, h2, h3⟩ := hx.ex
    have hq := SqT.of (K := K) ht
    refine ⟨_, pss_one (ps_ret (pe_tup (pa_cons (pe_op op_mul pe_int (pe_ix ix_tup (pv 0) pe_int (fun _ _ => rfl))) (pa_cons (pe_op op_mul pe_int (pe_ix ix_tup (pv 0) pe_int (fun _ _ => rfl))) (pa_cons (pe_op op_mul pe_int (pe_ix ix_tup (pv 0) pe_int (fun _ _ => rfl))) pa_nil))))), ?_⟩
    refine ⟨_, rfl, t, _, _, nV a, rfl, rfl, hq, rfl, _, _, rfl, rfl, .inl ⟨by decide, by decide⟩, _, rfl, t, _, _, nV b', rfl, rfl, hq, rfl, _, _, rfl, rfl, .inl ⟨by decide, by decide⟩, _, rfl, t, _, _, nV c, rfl, rfl, hq, rfl, _, _, rfl, rfl, .inl ⟨by decide, by decide⟩, (by show 3 ≤ sizeLine; decide), fun p np => ?_⟩
    exact k _ p upd_same (Same.new np)
def triL (cs : List (List Nat)) (x : List Nat) : Bead.Pt × Bead.Pt × Bead.Pt := (dbl (cs.getD (x.getD 0 0) []), dbl (cs.getD (x.getD 1 0) []), dbl (cs.getD (x.getD 2 0) []))
theorem pt_dbl {cs : List (List Nat)} {F : List Bead.Face} (h3 : ∀ x ∈ cs, MM.Pt3 x) {i : Nat} (hi : i < cs.length) : (⟨cs.map MM.cornerOf, F⟩ : Bead.Mesh).pt i = dbl (cs.getD i []) := by
  unfold Bead.Mesh.pt
  dsimp only
  rw [List.getElem?_map, List.getElem?_eq_getElem hi, List.getD_eq_getElem?_getD, List.getElem?_eq_getElem hi]
  obtain ⟨a, b, c, e, _⟩ := (h3 cs[i] (List.getElem_mem hi)).ex
  rw [e]
  rfl
theorem tri_is {cs fs : List (List Nat)} (h3 : ∀ x ∈ cs, MM.Pt3 x) (f3 : ∀ x ∈ fs, x.length = 3) (fb : ∀ x ∈ fs, ∀ n ∈ x, n < cs.length) : (⟨cs.map MM.cornerOf, fs.map MM.faceOf⟩ : Bead.Mesh).triangles = fs.map (triL cs) := by
  unfold Bead.Mesh.triangles
  dsimp only
  rw [List.map_map]
  refine List.map_congr_left fun x hx => ?_
  match x, f3 x hx, fb x hx with
  | [a, b, c], _, hb =>
    show ((⟨cs.map MM.cornerOf, fs.map MM.faceOf⟩ : Bead.Mesh).pt a, (⟨cs.map MM.cornerOf, fs.map MM.faceOf⟩ : Bead.Mesh).pt b, (⟨cs.map MM.cornerOf, fs.map MM.faceOf⟩ : Bead.Mesh).pt c) = (dbl (cs.getD a []), dbl (cs.getD b []), dbl (cs.getD c []))
    rw [pt_dbl h3 (hb a (by simp)), pt_dbl h3 (hb b (by simp)), pt_dbl h3 (hb c (by simp))]
theorem near_dbl {x : List Nat} (h : MM.Pt3 x) : RY.Near (dbl x) := by
  obtain ⟨a, b, c, rfl, h1, h2, h3⟩ := h.ex
  refine ⟨?_, ?_, ?_, ?_, ?_, ?_⟩ <;> simp only [dbl] <;> omega
theorem trip_is {cs fs : List (List Nat)} (h3 : ∀ x ∈ cs, MM.Pt3 x) (f3 : ∀ x ∈ fs, x.length = 3) (fb : ∀ x ∈ fs, ∀ n ∈ x, n < cs.length) : ∀ t ∈ fs.map (triL cs), RY.Trip t := by
  intro t ht
  obtain ⟨x, hx, rfl⟩ := List.mem_map.mp ht
  have nr : ∀ i, i < cs.length → RY.Near (dbl (cs.getD i [])) := fun i hi => by
    rw [List.getD_eq_getElem?_getD, List.getElem?_eq_getElem hi]
    exact near_dbl (h3 _ (List.getElem_mem hi))
  match x, f3 x hx, fb x hx with
  | [a, b, c], _, hb => exact ⟨nr a (hb a (by simp)), nr b (hb b (by simp)), nr c (hb c (by simp))⟩
theorem MeshAt.same {H H' : Hp} {m : Addr} {cs fs : List (List Nat)} (M : MeshAt A H m cs fs) (k : Same H H') : MeshAt A H' m cs fs := by
  obtain ⟨dm, cl, tl, cas, tas, M⟩ := M
  exact ⟨dm, cl, tl, cas, tas, M.same k⟩
def spTd (A : Adr) : Sp := fun vs H Q _ => ∃ (m : Addr) (cs fs : List (List Nat)), vs = [.ref m] ∧ MeshAt A H m cs fs ∧ (∀ x ∈ cs, MM.Pt3 x) ∧ (∀ x ∈ fs, x.length = 3) ∧ (∀ x ∈ fs, ∀ n ∈ x, n < cs.length) ∧ cs.length ≤ 64 ∧ fs.length ≤ 128 ∧
  ∀ (H' : Hp) (D : Addr) (bs : List Addr), H' D = some (.lst (bs.map V.ref)) → TrisAt H' bs (fs.map (triL cs)) → Same H H' → Q (.ref D) H'
theorem scTd : FnScope ["mesh", "corners", "corner", "triangle"] ["mesh"] (defScope sdoubled_triangles) := ⟨rfl, rfl, rfl, by decide +kernel, rfl, by decide +kernel, by decide +kernel⟩
theorem ok_td (T : Txt K mg A) : ∃ fd, FnOk P w K mg base CX0 2 A.fdoubled_triangles fd ["mesh"] (spTd A) ∧ Binds K fd ["mesh"] [] ∧ PySem.W.keepIn K (.ref A.fdoubled_triangles) = true := by
  obtain ⟨fd, F, b⟩ := T.bdoubled_triangles
  obtain ⟨fdD, GD, bD, kD⟩ := ok_dd (P := P) (w := w) (base := base) T
  refine ⟨fd, F.ok scTd (fun vs H Q E h => ?_) (fun cdv A' outer s H vs Q E hr h => ?_), b, F.kp⟩
  · obtain ⟨m, cs, fs, rfl, _⟩ := h
    rfl
  · obtain ⟨m, cs, fs, rfl, ⟨dm, cl, tl, cas, tas, M⟩, h3, f3, fb, h64, h128, k⟩ := h
    refine ⟨_, pss_cons (ps_set (i := 1) scTd.nd rfl (Or.inr rfl) (pe_lc (own := [("corner", 2)]) rfl scTd.nd (pi_list (pe_fld (pv 0) rfl)) (blkOk_at (N := ["mesh", "corners", "corner", "triangle"]) (sc := defScope sdoubled_triangles) (by decide +kernel)) (fun _ _ _ _ _ => pg_name (i := 2) scTd.nd rfl (Or.inl rfl)) (fun _ _ _ _ _ => pts_nil) (fun _ _ _ _ _ => (pe_call GD hr (by rfl) T.gdoubled kD bD .nil pass0 (pa_cons (pv 2) pa_nil)))))
      (pss_one (ps_ret (pe_lc (own := [("triangle", 3)]) rfl scTd.nd (pi_list (pe_fld (pv 0) rfl)) (blkOk_at (N := ["mesh", "corners", "corner", "triangle"]) (sc := defScope sdoubled_triangles) (by decide +kernel)) (fun _ _ _ _ _ => pg_name (i := 3) scTd.nd rfl (Or.inl rfl)) (fun _ _ _ _ _ => pts_nil) (fun _ _ _ _ _ => (pe_tup (pa_cons (pe_ix (ix_listK (K := K) rfl) (pv 1) (pe_ix (ix_tupK (K := K) rfl) (pv 3) pe_int (fun _ _ => rfl)) (fun _ _ => rfl)) (pa_cons (pe_ix (ix_listK (K := K) rfl) (pv 1) (pe_ix (ix_tupK (K := K) rfl) (pv 3) pe_int (fun _ _ => rfl)) (fun _ _ => rfl)) (pa_cons (pe_ix (ix_listK (K := K) rfl) (pv 1) (pe_ix (ix_tupK (K := K) rfl) (pv 3) pe_int (fun _ _ => rfl)) (fun _ _ => rfl)) pa_nil)))))))), ?_⟩
    refine ⟨_, rfl, m, A.cM, dm, _, _, rfl, M.ins, T.cM, T.nMc, mf_c cl tl, cl, rfl, ⟨_, SqL.of M.c⟩, fun D hD => lc_list (K := K) (a := cl) (xs := cas.map V.ref) (fun i H' => ∃ bs : List Addr, H' D = some (.lst (bs.map V.ref)) ∧ RowsAt H' bs ((cs.take i).map fun x => ptV (dbl x)) ∧ Same H H') ⟨[], upd_same, RowsAt.nil, Same.new hD⟩ ?_ ?_ ?_⟩
    · rintro i H' _ ⟨_, _, _, p3⟩
      exact SqL.of (p3 _ _ M.c)
    · rintro i y H' hy ⟨bs, p1, p2, p3⟩
      obtain ⟨c, hcc, rfl⟩ := refs_at hy
      obtain ⟨x, hx, hxt⟩ := M.cT.at_ i hcc
      have hbl : bs.length ≤ i := by
        have := p2.1
        rw [List.length_map, List.length_take] at this
        omega
      have hi : i < cs.length := (List.getElem?_eq_some_iff.mp hx).1
      refine ⟨rfl, yesT ?_⟩
      refine ⟨_, rfl, c, x, rfl, p3 _ _ hxt, h3 x (List.mem_of_getElem? hx), fun H2 p hp s2 => ?_⟩
      have h2 := s2 _ _ p1
      have kt : ∀ (o : HO) b ys, H2 b = some (.tup ys) → upd H2 D o b = some (.tup ys) := fun o b ys z => by
        rw [upd_ne (ne_of z h2 (by intro z; cases z))]
        exact z
      refine ⟨_, h2, ?_, bs ++ [p], ?_, ?_, fun b o q => ?_⟩
      · rw [List.length_map]
        exact Nat.lt_of_le_of_lt (by omega : _ ≤ 1000) (by decide)
      · rw [upd_same, List.map_append]
        rfl
      · rw [List.take_add_one, hx, List.map_append]
        exact ((p2.same s2).mono (kt _)).append (RowsAt.one (kt _ _ _ hp))
      · rw [upd_ne (ne_of_none q hD)]
        exact s2 _ _ (p3 _ _ q)
    · rintro H1 ⟨bs, b1, b2, s1⟩
      rw [List.length_map, M.cT.len, List.take_length] at b2
      have M1 := M.same s1
      have find : ∀ n, n < cs.length → ∃ pa, bs[n]? = some pa ∧ PtAt H1 pa (dbl (cs.getD n [])) := fun n hn => by
        have hb : n < bs.length := by
          rw [b2.1, List.length_map]
          exact hn
        refine ⟨bs[n], List.getElem?_eq_getElem hb, b2.2 n _ _ (List.getElem?_eq_getElem hb) ?_⟩
        rw [List.getElem?_map, List.getD_eq_getElem?_getD, List.getElem?_eq_getElem hn]
        rfl
      refine ⟨_, rfl, m, A.cM, dm, _, _, rfl, M1.ins, T.cM, T.nMt, mf_t cl tl, tl, rfl, ⟨_, SqL.of M1.t⟩, fun D2 hD2 => lc_list (K := K) (a := tl) (xs := tas.map V.ref) (fun i H' => ∃ ds : List Addr, H' D2 = some (.lst (ds.map V.ref)) ∧ TrisAt H' ds ((fs.take i).map (triL cs)) ∧ Same H1 H') ⟨[], upd_same, TrisAt.nil, Same.new hD2⟩ ?_ ?_ ?_⟩
      · rintro i H' _ ⟨_, _, _, p3⟩
        exact SqL.of (p3 _ _ M1.t)
      · rintro i y H' hy ⟨ds, p1, p2, p3⟩
        obtain ⟨t, htt, rfl⟩ := refs_at hy
        obtain ⟨x, hx, hxt⟩ := M1.tT.at_ i htt
        have hxm := List.mem_of_getElem? hx
        have hbl : ds.length ≤ i := by
          have := p2.1
          rw [List.length_map, List.length_take] at this
          omega
        have hi : i < fs.length := (List.getElem?_eq_some_iff.mp hx).1
        refine ⟨rfl, yesT ?_⟩
        have l3 := f3 x hxm
        have lb := fb x hxm
        match x, l3, lb with
        | [a, b', c], _, hb =>
          obtain ⟨pa, ea, ha⟩ := find a (hb a (by simp))
          obtain ⟨pb, eb, hb'⟩ := find b' (hb b' (by simp))
          obtain ⟨pc, ec, hc⟩ := find c (hb c (by simp))
          have qx := SqT.of (K := K) (p3 _ _ hxt)
          have qd := SqL.of (K := K) (p3 _ _ b1)
          have at_ : ∀ {n : Nat} {q : Addr}, bs[n]? = some q → atI (bs.map V.ref) (n : Int) = some (.ref q) := fun e => atI_nat (by rw [List.getElem?_map, e]; rfl)
          refine ⟨_, rfl, _, rfl, t, _, _, nV a, rfl, rfl, qx, rfl, D, _, _, .ref pa, rfl, rfl, qd, at_ ea, _, rfl, _, rfl, t, _, _, nV b', rfl, rfl, qx, rfl, D, _, _, .ref pb, rfl, rfl, qd, at_ eb, _, rfl, _, rfl, t, _, _, nV c, rfl, rfl, qx, rfl, D, _, _, .ref pc, rfl, rfl, qd, at_ ec, (by show 3 ≤ sizeLine; decide), fun p np => ?_⟩
          have s4 := Same.new (o := HO.tup [V.ref pa, V.ref pb, V.ref pc]) np
          have h2 := s4 _ _ p1
          have kt : ∀ (o : HO) b ys, upd H' p (.tup [V.ref pa, V.ref pb, V.ref pc]) b = some (.tup ys) → upd (upd H' p (.tup [V.ref pa, V.ref pb, V.ref pc])) D2 o b = some (.tup ys) := fun o b ys z => by
            rw [upd_ne (ne_of z h2 (by intro z; cases z))]
            exact z
          have k1 : ∀ (o : HO) b ys, H1 b = some (.tup ys) → upd (upd H' p (.tup [V.ref pa, V.ref pb, V.ref pc])) D2 o b = some (.tup ys) := fun o b ys z => kt o _ _ (s4 _ _ (p3 _ _ z))
          refine ⟨_, h2, ?_, ds ++ [p], ?_, ?_, fun b o q => ?_⟩
          · rw [List.length_map]
            exact Nat.lt_of_le_of_lt (by omega : _ ≤ 1000) (by decide)
          · rw [upd_same, List.map_append]
            rfl
          · rw [List.take_add_one, hx, List.map_append]
            exact ((p2.same s4).mono (kt _)).snoc ⟨pa, pb, pc, kt _ _ _ upd_same, k1 _ _ _ ha, k1 _ _ _ hb', k1 _ _ _ hc⟩
          · rw [upd_ne (ne_of_none q hD2)]
            exact s4 _ _ (p3 _ _ q)
      · rintro H2 ⟨ds, p1, p2, p3⟩
        rw [List.length_map, M1.tT.len, List.take_length] at p2
        exact k H2 D2 ds p1 p2 (s1.trans p3)
/-! ### crossed_triangles, meets_odd -/
def spCt : Sp := fun vs H Q _ => ∃ (l ap : Addr) (as : List Addr) (ts : List (Bead.Pt × Bead.Pt × Bead.Pt)) (p : Bead.Pt) (lk : Nat), vs = [.ref l, .ref ap, .int (lk : Int)] ∧ H l = some (.lst (as.map V.ref)) ∧ TrisAt H as ts ∧ (∀ t ∈ ts, RY.Trip t) ∧ ts.length ≤ 128 ∧ PtAt H ap p ∧ lk < 6 ∧
  ∀ (H' : Hp) (D : Addr) (bs : List Addr), H' D = some (.lst (bs.map V.ref)) → H D = none → TrisAt H' bs (ts.filter (RY.metL lk p)) → Same H H' → Q (.ref D) H'
theorem scCt : FnScope ["triangles", "p", "look", "triangle"] ["triangles", "p", "look"] (defScope scrossed_triangles) := ⟨rfl, rfl, rfl, by decide +kernel, rfl, by decide +kernel, by decide +kernel⟩
theorem filt_next {α : Type} {f : α → Bool} {l : List α} {i : Nat} {x : α} (h : l[i]? = some x) : (l.take (i + 1)).filter f = (l.take i).filter f ++ (if f x = true then [x] else []) := by
  rw [List.take_add_one, h, List.filter_append, show (some x).toList = [x] from rfl, List.filter_cons, List.filter_nil]
theorem ok_ct (T : Txt K mg A) : ∃ fd, FnOk P w K mg base CX0 4 A.fcrossed_triangles fd ["triangles", "p", "look"] spCt ∧ Binds K fd ["triangles", "p", "look"] [] ∧ PySem.W.keepIn K (.ref A.fcrossed_triangles) = true := by
  obtain ⟨fd, F, b⟩ := T.bcrossed_triangles
  obtain ⟨fdC, GC, bC, kC⟩ := ok_ic (P := P) (w := w) (base := base) T
  obtain ⟨aL, gL, sL⟩ := T.t_LOOK_AXES
  refine ⟨fd, F.ok scCt (fun vs H Q E h => ?_) (fun cdv A' outer s H vs Q E hr h => ?_), b, F.kp⟩
  · obtain ⟨l, ap, as, ts, p, lk, rfl, _⟩ := h
    rfl
  · obtain ⟨l, ap, as, ts, p, lk, rfl, hl, ht, tr, h128, hp, hlk, k⟩ := h
    obtain ⟨l1, l2, l3, l4⟩ := RY.look_at hlk
    have hatL : atI (([2, 2, 0, 0, 1, 1] : List Int).map V.int) (lk : Int) = some (.int (RY.axLook lk : Int)) := atI_nat (by rw [List.getElem?_map, l1]; rfl)
    refine ⟨_, pss_one (ps_ret (pe_lc (own := [("triangle", 3)]) rfl scCt.nd (pi_list (pv 0)) (blkOk_at (N := ["triangles", "p", "look", "triangle"]) (sc := defScope scrossed_triangles) (by decide +kernel)) (fun _ _ _ _ _ => pg_name (i := 3) scCt.nd rfl (Or.inl rfl)) (fun _ _ _ _ _ => (pts_one (pt_val (pe_call GC hr (by rfl) T.gis_crossed kC bC .nil pass0 (pa_cons (pv 3) (pa_cons (pv 1) (pa_cons (pe_ix (ix_tupK (K := K) rfl) (pe_gref (by rfl) gL) (pv 2) (fun _ _ => rfl)) pa_nil))))))) (fun _ _ _ _ _ => (pv 3)))), ?_⟩
    refine ⟨_, rfl, l, rfl, ⟨_, SqL.of hl⟩, fun D hD => lc_list (K := K) (a := l) (xs := as.map V.ref) (fun i H' => ∃ bs : List Addr, H' D = some (.lst (bs.map V.ref)) ∧ TrisAt H' bs ((ts.take i).filter (RY.metL lk p)) ∧ Same H H') ⟨[], upd_same, TrisAt.nil, Same.new hD⟩ ?_ ?_ ?_⟩
    · rintro i H' _ ⟨_, _, _, p3⟩
      exact SqL.of (p3 _ _ hl)
    · rintro i y H' hy ⟨bs, p1, p2, p3⟩
      obtain ⟨a, haa, rfl⟩ := refs_at hy
      obtain ⟨t, htt, hta⟩ := ht.at_ haa
      have hbl : bs.length ≤ i := by
        have := p2.1
        have h9 := List.length_filter_le (RY.metL lk p) (ts.take i)
        rw [List.length_take] at h9
        omega
      have hi : i < ts.length := (List.getElem?_eq_some_iff.mp htt).1
      refine ⟨rfl, ?_⟩
      refine ⟨_, rfl, _, rfl, _, rfl, aL, _, _, _, rfl, rfl, sL _, hatL, a, ap, t, p, RY.axLook lk, rfl, hta.same p3, p3 _ _ hp, tr t (List.mem_of_getElem? htt), l3, fun H3 s3 => ⟨_, rfl, ?_⟩⟩
      rw [l4]
      cases he : Bead.metBy (lk / 2) t.1 t.2.1 t.2.2 p with
      | true =>
        have h3 := s3 _ _ p1
        have kt : ∀ (o : HO) b ys, H3 b = some (.tup ys) → upd H3 D o b = some (.tup ys) := fun o b ys z => by
          rw [upd_ne (ne_of z h3 (by intro z; cases z))]
          exact z
        refine iteT ?_
        refine ⟨_, rfl, _, h3, ?_, bs ++ [a], ?_, ?_, fun b o q => ?_⟩
        · rw [List.length_map]
          exact Nat.lt_of_le_of_lt (by omega : _ ≤ 1000) (by decide)
        · rw [upd_same, List.map_append]
          rfl
        · rw [filt_next htt, if_pos (show RY.metL lk p t = true from he)]
          exact ((p2.same s3).mono (kt _)).snoc ((hta.same (p3.trans s3)).mono (kt _))
        · rw [upd_ne (ne_of_none q hD)]
          exact s3 _ _ (p3 _ _ q)
      | false =>
        refine iteF ?_
        refine ⟨bs, s3 _ _ p1, ?_, p3.trans s3⟩
        rw [filt_next htt, if_neg (show ¬ RY.metL lk p t = true from by unfold RY.metL; rw [he]; exact Bool.false_ne_true), List.append_nil]
        exact p2.same s3
    · rintro H2 ⟨bs, p1, p2, p3⟩
      rw [List.length_map, ht.1, List.take_length] at p2
      exact k H2 D bs p1 hD p2 p3
def spMd : Sp := fun vs H Q _ => ∃ (l ap : Addr) (as : List Addr) (ts : List (Bead.Pt × Bead.Pt × Bead.Pt)) (p : Bead.Pt) (lk : Nat), vs = [.ref l, .ref ap, .int (lk : Int)] ∧ H l = some (.lst (as.map V.ref)) ∧ TrisAt H as ts ∧ (∀ t ∈ ts, RY.Trip t) ∧ ts.length ≤ 128 ∧ PtAt H ap p ∧ RY.Near p ∧ lk < 6 ∧
  ∀ H' : Hp, Same H H' → Q (.int (((ts.filter (RY.aheadL lk p)).length % 2 : Nat) : Int)) H'
theorem scMd : FnScope ["crossed", "p", "look", "triangle"] ["crossed", "p", "look"] (defScope smeets_odd) := ⟨rfl, rfl, rfl, by decide +kernel, rfl, by decide +kernel, by decide +kernel⟩
theorem ok_md (T : Txt K mg A) : ∃ fd, FnOk P w K mg base CX0 3 A.fmeets_odd fd ["crossed", "p", "look"] spMd ∧ Binds K fd ["crossed", "p", "look"] [] ∧ PySem.W.keepIn K (.ref A.fmeets_odd) = true := by
  obtain ⟨fd, F, b⟩ := T.bmeets_odd
  obtain ⟨fdC, GC, bC, kC⟩ := ok_ia (P := P) (w := w) (base := base) T
  refine ⟨fd, F.ok scMd (fun vs H Q E h => ?_) (fun cdv A' outer s H vs Q E hr h => ?_), b, F.kp⟩
  · obtain ⟨l, ap, as, ts, p, lk, rfl, _⟩ := h
    rfl
  · obtain ⟨l, ap, as, ts, p, lk, rfl, hl, ht, tr, h128, hp, np, hlk, k⟩ := h
    refine ⟨_, pss_one (ps_ret (pe_op op_mod (pe_callB call_len_seq (by rfl) T.len PySem.boot_len (pa_cons (pe_lc (own := [("triangle", 3)]) rfl scMd.nd (pi_list (pv 0)) (blkOk_at (N := ["crossed", "p", "look", "triangle"]) (sc := defScope smeets_odd) (by decide +kernel)) (fun _ _ _ _ _ => pg_name (i := 3) scMd.nd rfl (Or.inl rfl)) (fun _ _ _ _ _ => (pts_one (pt_val (pe_call GC hr (by rfl) T.gis_ahead kC bC .nil pass0 (pa_cons (pv 3) (pa_cons (pv 1) (pa_cons (pv 2) pa_nil))))))) (fun _ _ _ _ _ => (pv 3))) pa_nil)) pe_int)), ?_⟩
    refine ⟨_, rfl, l, rfl, ⟨_, SqL.of hl⟩, fun D hD => lc_list (K := K) (a := l) (xs := as.map V.ref) (fun i H' => ∃ bs : List V, H' D = some (.lst bs) ∧ bs.length = ((ts.take i).filter (RY.aheadL lk p)).length ∧ Same H H') ⟨[], upd_same, rfl, Same.new hD⟩ ?_ ?_ ?_⟩
    · rintro i H' _ ⟨_, _, _, p3⟩
      exact SqL.of (p3 _ _ hl)
    · rintro i y H' hy ⟨bs, p1, p2, p3⟩
      obtain ⟨a, haa, rfl⟩ := refs_at hy
      obtain ⟨t, htt, hta⟩ := ht.at_ haa
      have hbl : bs.length ≤ i := by
        have h9 := List.length_filter_le (RY.aheadL lk p) (ts.take i)
        rw [List.length_take] at h9
        omega
      have hi : i < ts.length := (List.getElem?_eq_some_iff.mp htt).1
      refine ⟨rfl, ?_⟩
      refine ⟨_, rfl, _, rfl, _, rfl, a, ap, t, p, lk, rfl, hta.same p3, p3 _ _ hp, tr t (List.mem_of_getElem? htt), np, hlk, fun H3 s3 => ⟨_, rfl, ?_⟩⟩
      cases he : RY.aheadB lk t.1 t.2.1 t.2.2 p with
      | true =>
        refine iteT ?_
        refine ⟨_, rfl, _, s3 _ _ p1, ?_, _, upd_same, ?_, fun b o q => ?_⟩
        · exact Nat.lt_of_le_of_lt (by omega : _ ≤ 1000) (by decide)
        · rw [filt_next htt, if_pos (show RY.aheadL lk p t = true from he), List.length_append, List.length_append, p2]
          rfl
        · rw [upd_ne (ne_of_none q hD)]
          exact s3 _ _ (p3 _ _ q)
      | false =>
        refine iteF ?_
        refine ⟨bs, s3 _ _ p1, ?_, p3.trans s3⟩
        rw [filt_next htt, if_neg (show ¬ RY.aheadL lk p t = true from by unfold RY.aheadL; rw [he]; exact Bool.false_ne_true), List.append_nil]
        exact p2
    · rintro H2 ⟨bs, p1, p2, p3⟩
      rw [List.length_map, ht.1, List.take_length] at p2
      refine ⟨D, _, rfl, .inl (SqL.of p1), _, _, rfl, rfl, (by show (0 : Int) < 2; decide), ?_⟩
      have := k H2 p3
      rw [← p2] at this
      exact this
/-! ### centre_of, is_pitch -/
def spCo : Sp := fun vs H Q _ => ∃ (c x y z : Nat), vs = [.int (c : Int), .int (x : Int), .int (y : Int), .int (z : Int)] ∧ c ≤ 8192 ∧ ∀ (H' : Hp) (t : Addr), PtAt H' t (Bead.centre c x y z) → Same H H' → Q (.ref t) H'
theorem scCo : FnScope ["c", "x", "y", "z"] ["c", "x", "y", "z"] (defScope scentre_of) := ⟨rfl, rfl, rfl, by decide +kernel, rfl, by decide +kernel, by decide +kernel⟩
theorem ok_co (T : Txt K mg A) : ∃ fd, FnOk P w K mg base CX0 1 A.fcentre_of fd ["c", "x", "y", "z"] spCo ∧ Binds K fd ["c", "x", "y", "z"] [] ∧ PySem.W.keepIn K (.ref A.fcentre_of) = true := by
  obtain ⟨fd, F, b⟩ := T.bcentre_of
  refine ⟨fd, F.ok scCo (fun vs H Q E h => ?_) (fun cdv A' outer s H vs Q E hr h => ?_), b, F.kp⟩
  · obtain ⟨c, x, y, z, rfl, _⟩ := h
    rfl
  · obtain ⟨c, x, y, z, rfl, hc, k⟩ := h
    refine ⟨_, pss_one (ps_ret (pe_tup (pa_cons (pe_op op_mul (pe_op op_add (pe_op op_mul pe_int (pv 1)) pe_int) (pv 0)) (pa_cons (pe_op op_mul (pe_op op_add (pe_op op_mul pe_int (pv 2)) pe_int) (pv 0)) (pa_cons (pe_op op_mul (pe_op op_add (pe_op op_mul pe_int (pv 3)) pe_int) (pv 0)) pa_nil))))), ?_⟩
    refine ⟨_, rfl, _, _, rfl, rfl, .inl ⟨by decide, by decide⟩, _, _, rfl, rfl, _, rfl, _, _, rfl, rfl, .inr ⟨by omega, by omega⟩, _, rfl, _, _, rfl, rfl, .inl ⟨by decide, by decide⟩, _, _, rfl, rfl, _, rfl, _, _, rfl, rfl, .inr ⟨by omega, by omega⟩, _, rfl, _, _, rfl, rfl, .inl ⟨by decide, by decide⟩, _, _, rfl, rfl, _, rfl, _, _, rfl, rfl, .inr ⟨by omega, by omega⟩, (by show 3 ≤ sizeLine; decide), fun t nt => ?_⟩
    exact k _ t upd_same (Same.new nt)
def spIp : Sp := fun vs H Q _ => ∃ c : Nat, vs = [.int (c : Int)] ∧ Q (.bl (Bodies.pitchOk c)) H
theorem scIp : FnScope ["c"] ["c"] (defScope sIp) := ⟨rfl, rfl, rfl, by decide +kernel, rfl, by decide +kernel, by decide +kernel⟩
theorem ok_ip (T : Txt K mg A) : ∃ fd, FnOk P w K mg base CX0 1 A.fIp fd ["c"] spIp ∧ Binds K fd ["c"] [] ∧ PySem.W.keepIn K (.ref A.fIp) = true := by
  obtain ⟨fd, F, b⟩ := T.bIp
  refine ⟨fd, F.ok scIp (fun vs H Q E h => ?_) (fun cdv A' outer s H vs Q E hr h => ?_), b, F.kp⟩
  · obtain ⟨n, rfl, _⟩ := h
    rfl
  · obtain ⟨n, rfl, k⟩ := h
    refine ⟨_, pss_one (ps_ret (pe_chain op_le op_le pe_int (pv 0) (pe_num (by rfl) T.n_GREATEST_PITCH))), ?_⟩
    refine ⟨_, rfl, _, _, rfl, rfl, _, rfl, ?_⟩
    have ek : Bodies.pitchOk n = (decide ((1 : Int) ≤ (n : Int)) && decide ((n : Int) ≤ (8192 : Int))) := by
      unfold Bodies.pitchOk Bead.PITCH
      congr 1 <;> rw [decide_eq_decide] <;> omega
    rw [ek] at k
    by_cases e1 : (1 : Int) ≤ (n : Int)
    · rw [decide_eq_true e1] at k ⊢
      refine iteT ?_
      refine ⟨_, _, rfl, rfl, ?_⟩
      rw [Bool.true_and] at k
      exact k
    · rw [decide_eq_false e1] at k ⊢
      refine iteF ?_
      exact k
end
end MP

end

section
set_option Elab.async false
set_option linter.all false
set_option maxRecDepth 100000
set_option maxHeartbeats 2000000
namespace MP
open PySem PySem.Spec PyProof.Rows L2
open Bead (Bytes In isDigit)
/-! ### lies_inside -/
theorem odd_is (n : Nat) : ((n % 2 : Nat) : Int) = if (n % 2 == 1) = true then 1 else 0 := by
  rcases Nat.mod_two_eq_zero_or_one n with h | h <;> rw [h] <;> rfl
def spLi (A : Adr) : Sp := fun vs H Q _ => ∃ (m ap : Addr) (cs fs : List (List Nat)) (p : Bead.Pt) (lk : Nat), vs = [.ref m, .ref ap, .int (lk : Int)] ∧ MeshAt A H m cs fs ∧ (∀ x ∈ cs, MM.Pt3 x) ∧ (∀ x ∈ fs, x.length = 3) ∧ (∀ x ∈ fs, ∀ n ∈ x, n < cs.length) ∧ cs.length ≤ 64 ∧ fs.length ≤ 128 ∧ PtAt H ap p ∧ RY.Near p ∧ lk < 6 ∧
  ∀ H' : Hp, Same H H' → Q (.int (if (meshOf cs fs).inside lk p = true then 1 else 0)) H'
theorem scLi : FnScope ["mesh", "p", "look"] ["mesh", "p", "look"] (defScope slies_inside) := ⟨rfl, rfl, rfl, by decide +kernel, rfl, by decide +kernel, by decide +kernel⟩
/-! ### inside -/
def spIn (K : PySem.W.Frag) : Sp := fun vs H Q _ => ∃ (c x y z lk : Nat) (a : Addr) (B : Bytes), vs = [.int (c : Int), .int (x : Int), .int (y : Int), .int (z : Int), .int (lk : Int), .ref a] ∧ SqL K H a (B.map bV) ∧ ∀ (H' : Hp) (p : Addr), H' p = some (.lst ((due (.inside B c x y z lk)).map V.int)) → Q (.ref p) H'
theorem scIn : FnScope ["c", "x", "y", "z", "look", "t", "mesh"] ["c", "x", "y", "z", "look", "t"] (defScope sinside) := ⟨rfl, rfl, rfl, by decide +kernel, rfl, by decide +kernel, by decide +kernel⟩
section
variable {P : Program} {w : World} {K : PySem.W.Frag} {mg : Str → Option Value} {base : Heap} {A : Adr}
theorem ok_li (T : Txt K mg A) : ∃ fd, FnOk P w K mg base CX0 5 A.flies_inside fd ["mesh", "p", "look"] (spLi A) ∧ Binds K fd ["mesh", "p", "look"] [] ∧ PySem.W.keepIn K (.ref A.flies_inside) = true := by
  obtain ⟨fd, F, b⟩ := T.blies_inside
  obtain ⟨fdD, GD, bD, kD⟩ := ok_td (P := P) (w := w) (base := base) T
  obtain ⟨fdC, GC, bC, kC⟩ := ok_ct (P := P) (w := w) (base := base) T
  obtain ⟨fdM, GM, bM, kM⟩ := ok_md (P := P) (w := w) (base := base) T
  refine ⟨fd, F.ok scLi (fun vs H Q E h => ?_) (fun cdv A' outer s H vs Q E hr h => ?_), b, F.kp⟩
  · obtain ⟨m, ap, cs, fs, p, lk, rfl, _⟩ := h
    rfl
  · obtain ⟨m, ap, cs, fs, p, lk, rfl, M, h3, f3, fb, h64, h128, hp, np, hlk, k⟩ := h
    refine ⟨_, pss_one (ps_ret (pe_call GM (hr.mono (show 3 ≤ 4 by decide)) (by rfl) T.gmeets_odd kM bM .nil pass0 (pa_cons (pe_call GC hr (by rfl) T.gcrossed_triangles kC bC .nil pass0 (pa_cons (pe_call GD (hr.mono (show 2 ≤ 4 by decide)) (by rfl) T.gdoubled_triangles kD bD .nil pass0 (pa_cons (pv 0) pa_nil)) (pa_cons (pv 1) (pa_cons (pv 2) pa_nil)))) (pa_cons (pv 1) (pa_cons (pv 2) pa_nil))))), ?_⟩
    have tr := trip_is h3 f3 fb
    refine ⟨_, rfl, m, cs, fs, rfl, M, h3, f3, fb, h64, h128, fun H1 D bs hD ht s1 => ?_⟩
    refine ⟨_, rfl, _, rfl, D, ap, bs, _, p, lk, rfl, hD, ht, tr, by rw [List.length_map]; exact h128, s1 _ _ hp, hlk, fun H2 D2 ds hD2 _ ht2 s2 => ?_⟩
    refine ⟨_, rfl, _, rfl, D2, ap, ds, _, p, lk, rfl, hD2, ht2, fun t hx => tr t (List.mem_filter.mp hx).1, Nat.le_trans (List.length_filter_le _ _) (by rw [List.length_map]; exact h128), s2 _ _ (s1 _ _ hp), np, hlk, fun H3 s3 => ?_⟩
    have kk := k H3 (s1.trans (s2.trans s3))
    unfold Bead.Mesh.inside meshOf at kk
    rw [tri_is h3 f3 fb, RY.inside_is hlk, ← odd_is] at kk
    exact kk
theorem ok_in {f : Addr} {fd : FuncData} (F : Fun K "inside" "inside" sinside f fd) (T : Txt K mg A) : FnOk P w K mg base CX0 12 f fd ["c", "x", "y", "z", "look", "t"] (spIn K) := by
  obtain ⟨fdM, GM, bM, kM⟩ := ok_mo (P := P) (w := w) (base := base) T
  obtain ⟨fdA, GA, bA, kA⟩ := ok_ans (P := P) (w := w) (base := base) T
  obtain ⟨fdR, GR, bR, kR⟩ := ok_ref (P := P) (w := w) (base := base) T
  obtain ⟨fdE, GE, bE, kE⟩ := ok_fo (P := P) (w := w) (base := base) T
  obtain ⟨fdP, GP, bP, kP⟩ := ok_ip (P := P) (w := w) (base := base) T
  obtain ⟨fdL, GL, bL, kL⟩ := ok_li (P := P) (w := w) (base := base) T
  obtain ⟨fdC, GC, bC, kC⟩ := ok_co (P := P) (w := w) (base := base) T
  refine F.ok scIn (fun vs H Q E h => ?_) (fun cdv A' outer s H vs Q E hr h => ?_)
  · obtain ⟨c, x, y, z, lk, a, B, rfl, _⟩ := h
    rfl
  · obtain ⟨c, x, y, z, lk, a, B, rfl, hs, k⟩ := h
    have hr2 := (hr.mono (show 2 ≤ 11 by decide)).c
    have hr1 := (hr.mono (show 1 ≤ 11 by decide)).c
    refine ⟨_, pss_cons (ps_if (pt_cmpR op_gt (pe_callB call_len_seq (by rfl) T.len PySem.boot_len (pa_cons (pv 5) pa_nil)) (pe_num (by rfl) T.nMB) (nomark _)) (pss_one (ps_ret (pe_callC GR hr2 (by rfl) T.gRef kR bR pass0 (pa_cons (pe_num (by rfl) T.nTL) pa_nil)))) pss_nil)
      (pss_cons (ps_set (i := 6) scIn.nd rfl (Or.inl rfl) (pe_call GM hr (by rfl) T.gMo kM bM .nil pass0 (pa_cons (pv 5) pa_nil)))
      (pss_cons (ps_if (pt_cmp (pc_isN (pv 6))) (pss_one (ps_ret (pe_callC GR hr2 (by rfl) T.gRef kR bR pass0 (pa_cons (pe_num (by rfl) T.nNS) pa_nil)))) pss_nil)
      (pss_cons (ps_if (pt_cmp (pc_notN (pe_call GE (hr.mono (show 2 ≤ 11 by decide)) (by rfl) T.gfirst_odd_side kE bE .nil pass0 (pa_cons (pv 6) pa_nil)))) (pss_one (ps_ret (pe_callC GR hr2 (by rfl) T.gRef kR bR pass0 (pa_cons (pe_num (by rfl) T.n_UNFIT) pa_nil)))) pss_nil)
      (pss_cons (ps_if (pw_or (pt_not (pt_val (pe_call GP (hr.mono (show 1 ≤ 11 by decide)) (by rfl) T.gIp kP bP .nil pass0 (pa_cons (pv 0) pa_nil)))) (pw_or (pt_cmpR op_gt (pv 4) (pe_num (by rfl) T.n_GREATEST_LOOK) (nomark _)) (pw_or1 (pt_cmpR op_ge (pe_callB (call_max3 rfl) (by rfl) T.max boot_mx (pa_cons (pv 1) (pa_cons (pv 2) (pa_cons (pv 3) pa_nil)))) (pe_num (by rfl) T.n12) (nomark _))))).pt (pss_one (ps_ret (pe_callC GR hr2 (by rfl) T.gRef kR bR pass0 (pa_cons (pe_num (by rfl) T.n_OUT_OF_RANGE) pa_nil)))) pss_nil)
      (pss_one (ps_ret (pe_callC GA hr1 (by rfl) T.gAns kA bA pass0 (pa_cons (pe_call GL (hr.mono (show 5 ≤ 11 by decide)) (by rfl) T.glies_inside kL bL .nil pass0 (pa_cons (pv 6) (pa_cons (pe_call GC (hr.mono (show 1 ≤ 11 by decide)) (by rfl) T.gcentre_of kC bC .nil pass0 (pa_cons (pv 0) (pa_cons (pv 1) (pa_cons (pv 2) (pa_cons (pv 3) pa_nil))))) (pa_cons (pv 4) pa_nil)))) (pa_cons (pe_lst pa_nil) (pa_cons (pe_lst pa_nil) pa_nil)))))))))), ?_⟩
    refine ⟨_, rfl, a, _, rfl, .inl hs, _, _, rfl, rfl, _, rfl, ?_⟩
    rw [List.length_map]
    by_cases hl : 16384 < B.length
    · rw [decide_eq_true (show (16384 : Int) < (B.length : Int) by omega)]; refine iteT ?_
      refine ⟨-2, rfl, fun H' p hp => k H' p ?_⟩
      have e : due (.inside B c x y z lk) = BodiesNeutral.numbersOf (Bead.says (-2)) := congrArg _ (looked_long hl _)
      rw [e, says_is]
      exact hp
    · rw [decide_eq_false (show ¬ (16384 : Int) < (B.length : Int) by omega)]; refine iteF ?_
      have e1 : due (.inside B c x y z lk) = BodiesNeutral.numbersOf (Bodies.ofMesh B fun M => if M.closed = false then Bead.says (-9) else if Bodies.pitchOk c = false ∨ 6 ≤ lk ∨ 12 ≤ x ∨ 12 ≤ y ∨ 12 ≤ z then Bead.says (-1) else Bead.says (if M.inside lk (Bead.centre c x y z) = true then 1 else 0)) := congrArg _ (looked_short hl _)
      refine ⟨_, rfl, a, B, rfl, hs, fun cs fs e h3 f3 h64 h128 H1 m M s1 => ?_, fun q e H1 s1 => ?_⟩
      · have e' : Bead.readMesh B = .ok (meshOf cs fs) := e
        rw [of_mesh e'] at e1
        have ok : MM.MeshOk (meshOf cs fs) := MM.read_ok e
        have cb := MM.corner_bound ok.cs h3
        have fb0 := MM.face_bound ok.fs f3
        have fb : ∀ x ∈ fs, ∀ n ∈ x, n < cs.length := fun x hx n hn => by
          have h9 : n < (cs.map MM.cornerOf).length := fb0 x hx n hn
          rwa [List.length_map] at h9
        have hp3 : ∀ x ∈ cs, MM.Pt3 x := fun x hx => ⟨h3 x hx, cb x hx⟩
        refine ⟨_, rfl, _, rfl, ?_⟩
        rw [decide_eq_false (by intro z; cases z)]; refine iteF ?_
        refine ⟨_, rfl, m, cs, fs, rfl, M, f3, ok, fun ho H2 s2 => ?_, fun q ho H2 t ht s2 => ?_⟩
        · have hcl : (meshOf cs fs).closed = true := by
            unfold Bead.Mesh.closed
            rw [ho]
            rfl
          rw [if_neg (show ¬ (meshOf cs fs).closed = false by rw [hcl]; exact Bool.noConfusion)] at e1
          refine ⟨_, rfl, ?_⟩
          rw [decide_eq_true rfl]; refine iteF ?_
          refine ⟨_, rfl, c, rfl, _, rfl, ?_⟩
          cases hpc : Bodies.pitchOk c with
          | false =>
            refine iteT ?_
            refine iteT ?_
            refine ⟨-1, rfl, fun H' p hp => k H' p ?_⟩
            rw [e1, if_pos (.inl hpc), says_is]
            exact hp
          | true =>
            refine iteF ?_
            refine ⟨_, rfl, _, _, rfl, rfl, _, rfl, ?_⟩
            by_cases hlk : 6 ≤ lk
            · rw [decide_eq_true (show (5 : Int) < (lk : Int) by omega)]; refine iteT ?_
              refine iteT ?_
              refine ⟨-1, rfl, fun H' p hp => k H' p ?_⟩
              rw [e1, if_pos (.inr (.inl hlk)), says_is]
              exact hp
            · rw [decide_eq_false (show ¬ (5 : Int) < (lk : Int) by omega)]; refine iteF ?_
              refine ⟨_, rfl, _, rfl, _, rfl, _, _, _, rfl, _, _, rfl, rfl, _, rfl, ?_⟩
              by_cases hm : 12 ≤ x ∨ 12 ≤ y ∨ 12 ≤ z
              · rw [decide_eq_true (show (12 : Int) ≤ max (x : Int) (max (y : Int) (z : Int)) by omega)]; refine iteT ?_
                refine ⟨-1, rfl, fun H' p hp => k H' p ?_⟩
                rw [e1, if_pos (.inr (.inr hm)), says_is]
                exact hp
              · rw [decide_eq_false (show ¬ (12 : Int) ≤ max (x : Int) (max (y : Int) (z : Int)) by omega)]; refine iteF ?_
                have hpc' : c ≤ 8192 := by
                  unfold Bodies.pitchOk at hpc
                  rw [Bool.and_eq_true, decide_eq_true_eq, decide_eq_true_eq] at hpc
                  exact hpc.2
                rw [if_neg (show ¬ (Bodies.pitchOk c = false ∨ 6 ≤ lk ∨ 12 ≤ x ∨ 12 ≤ y ∨ 12 ≤ z) from fun z => z.elim (fun z => by rw [hpc] at z; cases z) fun z => z.elim hlk hm)] at e1
                refine ⟨_, rfl, _, rfl, _, rfl, _, rfl, _, rfl, c, x, y, z, rfl, hpc', fun H3 t ht s3 => ?_⟩
                refine ⟨_, rfl, m, t, cs, fs, _, lk, rfl, MeshAt.same (MeshAt.same M s2) s3, hp3, f3, fb, h64, h128, ht, RY.centre_near hpc' (by omega) (by omega) (by omega), by omega, fun H4 s4 => ?_⟩
                refine ⟨Nat.zero_le _, fun l1 n1 => ⟨Nat.zero_le _, fun l2 n2 => ?_⟩⟩
                have a1 : upd (upd H4 l1 (.lst [])) l2 (.lst []) l1 = some (.lst []) := by
                  rw [upd_ne (ne_of_none (upd_same : upd H4 l1 (.lst []) l1 = _) n2)]
                  exact upd_same
                refine ⟨_, l1, l2, [], [], rfl, a1, upd_same, Nat.zero_le _, Nat.zero_le _, fun H' p hp => k H' p ?_⟩
                rw [e1, says_is]
                exact hp
        · have hcl : (meshOf cs fs).closed = false := by
            unfold Bead.Mesh.closed
            rw [ho]
            rfl
          rw [if_pos (show (meshOf cs fs).closed = false from hcl)] at e1
          refine ⟨_, rfl, ?_⟩
          rw [decide_eq_false (by intro z; cases z)]; refine iteT ?_
          refine ⟨-9, rfl, fun H' p hp => k H' p ?_⟩
          rw [e1, says_is]
          exact hp
      · rw [of_nomesh e] at e1
        refine ⟨_, rfl, _, rfl, ?_⟩
        rw [decide_eq_true rfl]; refine iteT ?_
        refine ⟨-6, rfl, fun H' p hp => k H' p ?_⟩
        rw [e1, says_is]
        exact hp
end
open PySem.W (WData) in
theorem req_in {K : PySem.W.Frag} {H : Hp} {c x y z lk : Int} {a : Addr} {ns : List Int} {E : XK} (hc : 0 ≤ c) (hx : 0 ≤ x) (hy : 0 ≤ y) (hz : 0 ≤ z) (hl : 0 ≤ lk) (hs : SqL K H a (ns.map V.int)) (h : ns.all (PySem.W.Codec.inInt 0 255) = true) :
    spIn K [.int c, .int x, .int y, .int z, .int lk, .ref a] H (fun v H' => Dw K H' v (.list ((PyWqaebs.inside c x y z lk ns).map WData.int))) E := by
  refine ⟨c.toNat, x.toNat, y.toNat, z.toNat, lk.toNat, a, BodiesNeutral.text ns, by rw [Int.toNat_of_nonneg hc, Int.toNat_of_nonneg hx, Int.toNat_of_nonneg hy, Int.toNat_of_nonneg hz, Int.toNat_of_nonneg hl], ?_, fun H' p hp => .lst (SqL.of hp) (dw_ints _)⟩
  rw [← text_back h]
  exact hs
theorem all_mk {P : Program} {w : World} {K : PySem.W.Frag} {h : Heap} {mg : Str → Option Value} {fa cF fF cM fM cR fR fAt fSee fDig fSkip fBeg fRd fRn fRl fTc fTt fRm fsides ffirst_odd_side fcentre_of fdoubled fdoubled_triangles ffirst_sign fside_sign fis_crossed fdifference fdot fcross fis_ahead fcrossed_triangles fmeets_odd flies_inside fAns fRef fIp fMo finside : Addr} (X : K.In h) (G : h.Ns mainGlobals mg) (hfa : mg "inside" = some (.ref fa))
    {oc0 kv0 dc0 pm0 cd0 ct0 : Value} {od0 an0 : Option Addr} {sl0 : Array (Option Value)}
    {oc1 kv1 dc1 pm1 cd1 ct1 : Value} {od1 an1 : Option Addr} {sl1 : Array (Option Value)}
    {oc2 kv2 dc2 pm2 cd2 ct2 : Value} {od2 an2 : Option Addr} {sl2 : Array (Option Value)}
    {oc3 kv3 dc3 pm3 cd3 ct3 : Value} {od3 an3 : Option Addr} {sl3 : Array (Option Value)}
    {oc4 kv4 dc4 pm4 cd4 ct4 : Value} {od4 an4 : Option Addr} {sl4 : Array (Option Value)}
    {oc5 kv5 dc5 pm5 cd5 ct5 : Value} {od5 an5 : Option Addr} {sl5 : Array (Option Value)}
    {oc6 kv6 dc6 pm6 cd6 ct6 : Value} {od6 an6 : Option Addr} {sl6 : Array (Option Value)}
    {oc7 kv7 dc7 pm7 cd7 ct7 : Value} {od7 an7 : Option Addr} {sl7 : Array (Option Value)}
    {oc8 kv8 dc8 pm8 cd8 ct8 : Value} {od8 an8 : Option Addr} {sl8 : Array (Option Value)}
    {oc9 kv9 dc9 pm9 cd9 ct9 : Value} {od9 an9 : Option Addr} {sl9 : Array (Option Value)}
    {oc10 kv10 dc10 pm10 cd10 ct10 : Value} {od10 an10 : Option Addr} {sl10 : Array (Option Value)}
    {oc11 kv11 dc11 pm11 cd11 ct11 : Value} {od11 an11 : Option Addr} {sl11 : Array (Option Value)}
    {oc12 kv12 dc12 pm12 cd12 ct12 : Value} {od12 an12 : Option Addr} {sl12 : Array (Option Value)}
    {oc13 kv13 dc13 pm13 cd13 ct13 : Value} {od13 an13 : Option Addr} {sl13 : Array (Option Value)}
    {oc14 kv14 dc14 pm14 cd14 ct14 : Value} {od14 an14 : Option Addr} {sl14 : Array (Option Value)}
    {oc15 kv15 dc15 pm15 cd15 ct15 : Value} {od15 an15 : Option Addr} {sl15 : Array (Option Value)}
    {oc16 kv16 dc16 pm16 cd16 ct16 : Value} {od16 an16 : Option Addr} {sl16 : Array (Option Value)}
    {oc17 kv17 dc17 pm17 cd17 ct17 : Value} {od17 an17 : Option Addr} {sl17 : Array (Option Value)}
    {oc18 kv18 dc18 pm18 cd18 ct18 : Value} {od18 an18 : Option Addr} {sl18 : Array (Option Value)}
    {oc19 kv19 dc19 pm19 cd19 ct19 : Value} {od19 an19 : Option Addr} {sl19 : Array (Option Value)}
    {oc20 kv20 dc20 pm20 cd20 ct20 : Value} {od20 an20 : Option Addr} {sl20 : Array (Option Value)}
    {oc21 kv21 dc21 pm21 cd21 ct21 : Value} {od21 an21 : Option Addr} {sl21 : Array (Option Value)}
    {oc22 kv22 dc22 pm22 cd22 ct22 : Value} {od22 an22 : Option Addr} {sl22 : Array (Option Value)}
    {oc23 kv23 dc23 pm23 cd23 ct23 : Value} {od23 an23 : Option Addr} {sl23 : Array (Option Value)}
    {oc24 kv24 dc24 pm24 cd24 ct24 : Value} {od24 an24 : Option Addr} {sl24 : Array (Option Value)}
    {oc25 kv25 dc25 pm25 cd25 ct25 : Value} {od25 an25 : Option Addr} {sl25 : Array (Option Value)}
    {oc26 kv26 dc26 pm26 cd26 ct26 : Value} {od26 an26 : Option Addr} {sl26 : Array (Option Value)}
    {oc27 kv27 dc27 pm27 cd27 ct27 : Value} {od27 an27 : Option Addr} {sl27 : Array (Option Value)}
    {oc28 kv28 dc28 pm28 cd28 ct28 : Value} {od28 an28 : Option Addr} {sl28 : Array (Option Value)}
    {oc29 kv29 dc29 pm29 cd29 ct29 : Value} {od29 an29 : Option Addr} {sl29 : Array (Option Value)}
    {oc30 kv30 dc30 pm30 cd30 ct30 : Value} {od30 an30 : Option Addr} {sl30 : Array (Option Value)}
    {oc31 kv31 dc31 pm31 cd31 ct31 : Value} {od31 an31 : Option Addr} {sl31 : Array (Option Value)}
    {oc32 kv32 dc32 pm32 cd32 ct32 : Value} {od32 an32 : Option Addr} {sl32 : Array (Option Value)}
    {oc33 kv33 dc33 pm33 cd33 ct33 : Value} {od33 an33 : Option Addr} {sl33 : Array (Option Value)}
    {t34 : Tok}
    {t35 : Tok}
    {t36 : Tok}
    {t37 : Tok}
    {t38 : Tok}
    {t39 : Tok}
    {t40 : Tok}
    {t41 : Tok}
    {t42 : Tok}
    {t43 : Tok}
    {t44 : Tok}
    {t45 : Tok}
    {t46 : Tok}
    {t47 : Tok}
    {t48 : Tok}
    {t49 : Tok}
    {t50 : Tok}
    {a51 : Addr}
    {a52 : Addr}
    {a53 : Addr}
    (h1 : PySem.W.nsIn K mainGlobals "MeshFault" = some (some (.ref cF)))
    (h2 : PySem.W.findIn K (.ref cF) "__init__" = some (some (.ref fF)))
    (h3 : exIn K cF fF ["place"] = true)
    (h4 : fnCls K fF = true)
    (h5 : PySem.W.keepIn K (.ref cF) = true)
    (h6 : K.lookup fF = some ⟨oc0, od0, .func (PySem.W.fnOf "__init__" "MeshFault.__init__" (defArgs sXI) (defBody sXI) (defScope sXI) .none kv0 dc0 pm0 an0 cd0 ct0), sl0⟩)
    (h7 : PySem.W.codeIn K cd0 "MeshFault.__init__" = true)
    (h8 : PySem.W.keepIn K (.ref fF) = true)
    (h9 : PySem.W.nsIn K mainGlobals "Mesh" = some (some (.ref cM)))
    (h10 : PySem.W.findIn K (.ref cM) "__init__" = some (some (.ref fM)))
    (h11 : PySem.W.isFn K (.ref fM) = true)
    (h12 : K.lookup fM = some ⟨oc1, od1, .func (PySem.W.fnOf "__init__" "Mesh.__init__" (defArgs sMI) (defBody sMI) (defScope sMI) .none kv1 dc1 pm1 an1 cd1 ct1), sl1⟩)
    (h13 : PySem.W.codeIn K cd1 "Mesh.__init__" = true)
    (h14 : PySem.W.keepIn K (.ref fM) = true)
    (h15 : PySem.W.plainGet K cM Str.empty = true)
    (h16 : PySem.W.hasDictIn K cM = true)
    (h17 : PySem.W.plainOver K cM = true)
    (h18 : PySem.W.findIn K (.ref cM) "__setattr__" = some (some (.builtin "object.__setattr__")))
    (h19 : PySem.W.makesIn K cM = true)
    (h20 : PySem.W.keepIn K (.ref cM) = true)
    (h21 : PySem.W.findIn K (.ref cM) "corners" = some none)
    (h22 : PySem.W.findIn K (.ref cM) "triangles" = some none)
    (h23 : PySem.W.nsIn K mainGlobals "Reader" = some (some (.ref cR)))
    (h24 : PySem.W.findIn K (.ref cR) "__init__" = some (some (.ref fR)))
    (h25 : PySem.W.isFn K (.ref fR) = true)
    (h26 : K.lookup fR = some ⟨oc2, od2, .func (PySem.W.fnOf "__init__" "Reader.__init__" (defArgs sRI) (defBody sRI) (defScope sRI) .none kv2 dc2 pm2 an2 cd2 ct2), sl2⟩)
    (h27 : PySem.W.codeIn K cd2 "Reader.__init__" = true)
    (h28 : PySem.W.keepIn K (.ref fR) = true)
    (h29 : PySem.W.plainGet K cR Str.empty = true)
    (h30 : PySem.W.hasDictIn K cR = true)
    (h31 : PySem.W.plainOver K cR = true)
    (h32 : PySem.W.findIn K (.ref cR) "__setattr__" = some (some (.builtin "object.__setattr__")))
    (h33 : PySem.W.makesIn K cR = true)
    (h34 : PySem.W.keepIn K (.ref cR) = true)
    (h35 : PySem.W.findIn K (.ref cR) "signs" = some none)
    (h36 : PySem.W.findIn K (.ref cR) "place" = some none)
    (h37 : PySem.W.findIn K (.ref cR) "at_end" = some (some (.ref fAt)))
    (h38 : PySem.W.isFn K (.ref fAt) = true)
    (h39 : K.lookup fAt = some ⟨oc3, od3, .func (PySem.W.fnOf "at_end" "Reader.at_end" (defArgs sAt) (defBody sAt) (defScope sAt) .none kv3 dc3 pm3 an3 cd3 ct3), sl3⟩)
    (h40 : PySem.W.codeIn K cd3 "Reader.at_end" = true)
    (h41 : PySem.W.keepIn K (.ref fAt) = true)
    (h42 : PySem.W.findIn K (.ref cR) "sees" = some (some (.ref fSee)))
    (h43 : PySem.W.isFn K (.ref fSee) = true)
    (h44 : K.lookup fSee = some ⟨oc4, od4, .func (PySem.W.fnOf "sees" "Reader.sees" (defArgs sSee) (defBody sSee) (defScope sSee) .none kv4 dc4 pm4 an4 cd4 ct4), sl4⟩)
    (h45 : PySem.W.codeIn K cd4 "Reader.sees" = true)
    (h46 : PySem.W.keepIn K (.ref fSee) = true)
    (h47 : PySem.W.findIn K (.ref cR) "sees_digit" = some (some (.ref fDig)))
    (h48 : PySem.W.isFn K (.ref fDig) = true)
    (h49 : K.lookup fDig = some ⟨oc5, od5, .func (PySem.W.fnOf "sees_digit" "Reader.sees_digit" (defArgs sDig) (defBody sDig) (defScope sDig) .none kv5 dc5 pm5 an5 cd5 ct5), sl5⟩)
    (h50 : PySem.W.codeIn K cd5 "Reader.sees_digit" = true)
    (h51 : PySem.W.keepIn K (.ref fDig) = true)
    (h52 : PySem.W.findIn K (.ref cR) "skip" = some (some (.ref fSkip)))
    (h53 : PySem.W.isFn K (.ref fSkip) = true)
    (h54 : K.lookup fSkip = some ⟨oc6, od6, .func (PySem.W.fnOf "skip" "Reader.skip" (defArgs sSkip) (defBody sSkip) (defScope sSkip) .none kv6 dc6 pm6 an6 cd6 ct6), sl6⟩)
    (h55 : PySem.W.codeIn K cd6 "Reader.skip" = true)
    (h56 : PySem.W.keepIn K (.ref fSkip) = true)
    (h57 : PySem.W.nsIn K mainGlobals "begins_number" = some (some (.ref fBeg)))
    (h58 : K.lookup fBeg = some ⟨oc7, od7, .func (PySem.W.fnOf "begins_number" "begins_number" (defArgs sBeg) (defBody sBeg) (defScope sBeg) .none kv7 dc7 pm7 an7 cd7 ct7), sl7⟩)
    (h59 : PySem.W.codeIn K cd7 "begins_number" = true)
    (h60 : PySem.W.keepIn K (.ref fBeg) = true)
    (h61 : PySem.W.nsIn K mainGlobals "read_digit" = some (some (.ref fRd)))
    (h62 : K.lookup fRd = some ⟨oc8, od8, .func (PySem.W.fnOf "read_digit" "read_digit" (defArgs sRd) (defBody sRd) (defScope sRd) .none kv8 dc8 pm8 an8 cd8 ct8), sl8⟩)
    (h63 : PySem.W.codeIn K cd8 "read_digit" = true)
    (h64 : PySem.W.keepIn K (.ref fRd) = true)
    (h65 : PySem.W.nsIn K mainGlobals "read_number" = some (some (.ref fRn)))
    (h66 : K.lookup fRn = some ⟨oc9, od9, .func (PySem.W.fnOf "read_number" "read_number" (defArgs sRn) (defBody sRn) (defScope sRn) .none kv9 dc9 pm9 an9 cd9 ct9), sl9⟩)
    (h67 : PySem.W.codeIn K cd9 "read_number" = true)
    (h68 : PySem.W.keepIn K (.ref fRn) = true)
    (h69 : PySem.W.nsIn K mainGlobals "read_line" = some (some (.ref fRl)))
    (h70 : K.lookup fRl = some ⟨oc10, od10, .func (PySem.W.fnOf "read_line" "read_line" (defArgs sRl) (defBody sRl) (defScope sRl) .none kv10 dc10 pm10 an10 cd10 ct10), sl10⟩)
    (h71 : PySem.W.codeIn K cd10 "read_line" = true)
    (h72 : PySem.W.keepIn K (.ref fRl) = true)
    (h73 : PySem.W.nsIn K mainGlobals "takes_corner" = some (some (.ref fTc)))
    (h74 : K.lookup fTc = some ⟨oc11, od11, .func (PySem.W.fnOf "takes_corner" "takes_corner" (defArgs sTc) (defBody sTc) (defScope sTc) .none kv11 dc11 pm11 an11 cd11 ct11), sl11⟩)
    (h75 : PySem.W.codeIn K cd11 "takes_corner" = true)
    (h76 : PySem.W.keepIn K (.ref fTc) = true)
    (h77 : PySem.W.nsIn K mainGlobals "takes_triangle" = some (some (.ref fTt)))
    (h78 : K.lookup fTt = some ⟨oc12, od12, .func (PySem.W.fnOf "takes_triangle" "takes_triangle" (defArgs sTt) (defBody sTt) (defScope sTt) .none kv12 dc12 pm12 an12 cd12 ct12), sl12⟩)
    (h79 : PySem.W.codeIn K cd12 "takes_triangle" = true)
    (h80 : PySem.W.keepIn K (.ref fTt) = true)
    (h81 : PySem.W.nsIn K mainGlobals "read_mesh" = some (some (.ref fRm)))
    (h82 : K.lookup fRm = some ⟨oc13, od13, .func (PySem.W.fnOf "read_mesh" "read_mesh" (defArgs sRm) (defBody sRm) (defScope sRm) .none kv13 dc13 pm13 an13 cd13 ct13), sl13⟩)
    (h83 : PySem.W.codeIn K cd13 "read_mesh" = true)
    (h84 : PySem.W.keepIn K (.ref fRm) = true)
    (h85 : PySem.W.nsIn K mainGlobals "sides" = some (some (.ref fsides)))
    (h86 : K.lookup fsides = some ⟨oc14, od14, .func (PySem.W.fnOf "sides" "sides" (defArgs ssides) (defBody ssides) (defScope ssides) .none kv14 dc14 pm14 an14 cd14 ct14), sl14⟩)
    (h87 : PySem.W.codeIn K cd14 "sides" = true)
    (h88 : PySem.W.keepIn K (.ref fsides) = true)
    (h89 : PySem.W.nsIn K mainGlobals "first_odd_side" = some (some (.ref ffirst_odd_side)))
    (h90 : K.lookup ffirst_odd_side = some ⟨oc15, od15, .func (PySem.W.fnOf "first_odd_side" "first_odd_side" (defArgs sfirst_odd_side) (defBody sfirst_odd_side) (defScope sfirst_odd_side) .none kv15 dc15 pm15 an15 cd15 ct15), sl15⟩)
    (h91 : PySem.W.codeIn K cd15 "first_odd_side" = true)
    (h92 : PySem.W.keepIn K (.ref ffirst_odd_side) = true)
    (h93 : PySem.W.nsIn K mainGlobals "centre_of" = some (some (.ref fcentre_of)))
    (h94 : K.lookup fcentre_of = some ⟨oc16, od16, .func (PySem.W.fnOf "centre_of" "centre_of" (defArgs scentre_of) (defBody scentre_of) (defScope scentre_of) .none kv16 dc16 pm16 an16 cd16 ct16), sl16⟩)
    (h95 : PySem.W.codeIn K cd16 "centre_of" = true)
    (h96 : PySem.W.keepIn K (.ref fcentre_of) = true)
    (h97 : PySem.W.nsIn K mainGlobals "doubled" = some (some (.ref fdoubled)))
    (h98 : K.lookup fdoubled = some ⟨oc17, od17, .func (PySem.W.fnOf "doubled" "doubled" (defArgs sdoubled) (defBody sdoubled) (defScope sdoubled) .none kv17 dc17 pm17 an17 cd17 ct17), sl17⟩)
    (h99 : PySem.W.codeIn K cd17 "doubled" = true)
    (h100 : PySem.W.keepIn K (.ref fdoubled) = true)
    (h101 : PySem.W.nsIn K mainGlobals "doubled_triangles" = some (some (.ref fdoubled_triangles)))
    (h102 : K.lookup fdoubled_triangles = some ⟨oc18, od18, .func (PySem.W.fnOf "doubled_triangles" "doubled_triangles" (defArgs sdoubled_triangles) (defBody sdoubled_triangles) (defScope sdoubled_triangles) .none kv18 dc18 pm18 an18 cd18 ct18), sl18⟩)
    (h103 : PySem.W.codeIn K cd18 "doubled_triangles" = true)
    (h104 : PySem.W.keepIn K (.ref fdoubled_triangles) = true)
    (h105 : PySem.W.nsIn K mainGlobals "first_sign" = some (some (.ref ffirst_sign)))
    (h106 : K.lookup ffirst_sign = some ⟨oc19, od19, .func (PySem.W.fnOf "first_sign" "first_sign" (defArgs sfirst_sign) (defBody sfirst_sign) (defScope sfirst_sign) .none kv19 dc19 pm19 an19 cd19 ct19), sl19⟩)
    (h107 : PySem.W.codeIn K cd19 "first_sign" = true)
    (h108 : PySem.W.keepIn K (.ref ffirst_sign) = true)
    (h109 : PySem.W.nsIn K mainGlobals "side_sign" = some (some (.ref fside_sign)))
    (h110 : K.lookup fside_sign = some ⟨oc20, od20, .func (PySem.W.fnOf "side_sign" "side_sign" (defArgs sside_sign) (defBody sside_sign) (defScope sside_sign) .none kv20 dc20 pm20 an20 cd20 ct20), sl20⟩)
    (h111 : PySem.W.codeIn K cd20 "side_sign" = true)
    (h112 : PySem.W.keepIn K (.ref fside_sign) = true)
    (h113 : PySem.W.nsIn K mainGlobals "is_crossed" = some (some (.ref fis_crossed)))
    (h114 : K.lookup fis_crossed = some ⟨oc21, od21, .func (PySem.W.fnOf "is_crossed" "is_crossed" (defArgs sis_crossed) (defBody sis_crossed) (defScope sis_crossed) .none kv21 dc21 pm21 an21 cd21 ct21), sl21⟩)
    (h115 : PySem.W.codeIn K cd21 "is_crossed" = true)
    (h116 : PySem.W.keepIn K (.ref fis_crossed) = true)
    (h117 : PySem.W.nsIn K mainGlobals "difference" = some (some (.ref fdifference)))
    (h118 : K.lookup fdifference = some ⟨oc22, od22, .func (PySem.W.fnOf "difference" "difference" (defArgs sdifference) (defBody sdifference) (defScope sdifference) .none kv22 dc22 pm22 an22 cd22 ct22), sl22⟩)
    (h119 : PySem.W.codeIn K cd22 "difference" = true)
    (h120 : PySem.W.keepIn K (.ref fdifference) = true)
    (h121 : PySem.W.nsIn K mainGlobals "dot" = some (some (.ref fdot)))
    (h122 : K.lookup fdot = some ⟨oc23, od23, .func (PySem.W.fnOf "dot" "dot" (defArgs sdot) (defBody sdot) (defScope sdot) .none kv23 dc23 pm23 an23 cd23 ct23), sl23⟩)
    (h123 : PySem.W.codeIn K cd23 "dot" = true)
    (h124 : PySem.W.keepIn K (.ref fdot) = true)
    (h125 : PySem.W.nsIn K mainGlobals "cross" = some (some (.ref fcross)))
    (h126 : K.lookup fcross = some ⟨oc24, od24, .func (PySem.W.fnOf "cross" "cross" (defArgs scross) (defBody scross) (defScope scross) .none kv24 dc24 pm24 an24 cd24 ct24), sl24⟩)
    (h127 : PySem.W.codeIn K cd24 "cross" = true)
    (h128 : PySem.W.keepIn K (.ref fcross) = true)
    (h129 : PySem.W.nsIn K mainGlobals "is_ahead" = some (some (.ref fis_ahead)))
    (h130 : K.lookup fis_ahead = some ⟨oc25, od25, .func (PySem.W.fnOf "is_ahead" "is_ahead" (defArgs sis_ahead) (defBody sis_ahead) (defScope sis_ahead) .none kv25 dc25 pm25 an25 cd25 ct25), sl25⟩)
    (h131 : PySem.W.codeIn K cd25 "is_ahead" = true)
    (h132 : PySem.W.keepIn K (.ref fis_ahead) = true)
    (h133 : PySem.W.nsIn K mainGlobals "crossed_triangles" = some (some (.ref fcrossed_triangles)))
    (h134 : K.lookup fcrossed_triangles = some ⟨oc26, od26, .func (PySem.W.fnOf "crossed_triangles" "crossed_triangles" (defArgs scrossed_triangles) (defBody scrossed_triangles) (defScope scrossed_triangles) .none kv26 dc26 pm26 an26 cd26 ct26), sl26⟩)
    (h135 : PySem.W.codeIn K cd26 "crossed_triangles" = true)
    (h136 : PySem.W.keepIn K (.ref fcrossed_triangles) = true)
    (h137 : PySem.W.nsIn K mainGlobals "meets_odd" = some (some (.ref fmeets_odd)))
    (h138 : K.lookup fmeets_odd = some ⟨oc27, od27, .func (PySem.W.fnOf "meets_odd" "meets_odd" (defArgs smeets_odd) (defBody smeets_odd) (defScope smeets_odd) .none kv27 dc27 pm27 an27 cd27 ct27), sl27⟩)
    (h139 : PySem.W.codeIn K cd27 "meets_odd" = true)
    (h140 : PySem.W.keepIn K (.ref fmeets_odd) = true)
    (h141 : PySem.W.nsIn K mainGlobals "lies_inside" = some (some (.ref flies_inside)))
    (h142 : K.lookup flies_inside = some ⟨oc28, od28, .func (PySem.W.fnOf "lies_inside" "lies_inside" (defArgs slies_inside) (defBody slies_inside) (defScope slies_inside) .none kv28 dc28 pm28 an28 cd28 ct28), sl28⟩)
    (h143 : PySem.W.codeIn K cd28 "lies_inside" = true)
    (h144 : PySem.W.keepIn K (.ref flies_inside) = true)
    (h145 : PySem.W.nsIn K mainGlobals "answer" = some (some (.ref fAns)))
    (h146 : K.lookup fAns = some ⟨oc29, od29, .func (PySem.W.fnOf "answer" "answer" (defArgs sAns) (defBody sAns) (defScope sAns) .none kv29 dc29 pm29 an29 cd29 ct29), sl29⟩)
    (h147 : PySem.W.codeIn K cd29 "answer" = true)
    (h148 : PySem.W.keepIn K (.ref fAns) = true)
    (h149 : PySem.W.nsIn K mainGlobals "refusal" = some (some (.ref fRef)))
    (h150 : K.lookup fRef = some ⟨oc30, od30, .func (PySem.W.fnOf "refusal" "refusal" (defArgs sRef) (defBody sRef) (defScope sRef) .none kv30 dc30 pm30 an30 cd30 ct30), sl30⟩)
    (h151 : PySem.W.codeIn K cd30 "refusal" = true)
    (h152 : PySem.W.keepIn K (.ref fRef) = true)
    (h153 : PySem.W.nsIn K mainGlobals "is_pitch" = some (some (.ref fIp)))
    (h154 : K.lookup fIp = some ⟨oc31, od31, .func (PySem.W.fnOf "is_pitch" "is_pitch" (defArgs sIp) (defBody sIp) (defScope sIp) .none kv31 dc31 pm31 an31 cd31 ct31), sl31⟩)
    (h155 : PySem.W.codeIn K cd31 "is_pitch" = true)
    (h156 : PySem.W.keepIn K (.ref fIp) = true)
    (h157 : PySem.W.nsIn K mainGlobals "mesh_of" = some (some (.ref fMo)))
    (h158 : K.lookup fMo = some ⟨oc32, od32, .func (PySem.W.fnOf "mesh_of" "mesh_of" (defArgs sMo) (defBody sMo) (defScope sMo) .none kv32 dc32 pm32 an32 cd32 ct32), sl32⟩)
    (h159 : PySem.W.codeIn K cd32 "mesh_of" = true)
    (h160 : PySem.W.keepIn K (.ref fMo) = true)
    (h161 : PySem.W.nsIn K mainGlobals "inside" = some (some (.ref finside)))
    (h162 : K.lookup finside = some ⟨oc33, od33, .func (PySem.W.fnOf "inside" "inside" (defArgs sinside) (defBody sinside) (defScope sinside) .none kv33 dc33 pm33 an33 cd33 ct33), sl33⟩)
    (h163 : PySem.W.codeIn K cd33 "inside" = true)
    (h164 : PySem.W.keepIn K (.ref finside) = true)
    (h165 : PySem.W.nsIn K mainGlobals "GREATEST_SIDE" = some (some (.int 12 t34)))
    (h166 : PySem.W.nsIn K mainGlobals "MOST_CORNERS" = some (some (.int 64 t35)))
    (h167 : PySem.W.nsIn K mainGlobals "MOST_TRIANGLES" = some (some (.int 128 t36)))
    (h168 : PySem.W.nsIn K mainGlobals "GREATEST_COORDINATE" = some (some (.int 65535 t37)))
    (h169 : PySem.W.nsIn K mainGlobals "LINE_END" = some (some (.int 10 t38)))
    (h170 : PySem.W.nsIn K mainGlobals "BLANK" = some (some (.int 32 t39)))
    (h171 : PySem.W.nsIn K mainGlobals "NOUGHT" = some (some (.int 48 t40)))
    (h172 : PySem.W.nsIn K mainGlobals "NINE" = some (some (.int 57 t41)))
    (h173 : PySem.W.nsIn K mainGlobals "TRIANGLE_SIGN" = some (some (.int 116 t42)))
    (h174 : PySem.W.nsIn K mainGlobals "CORNER_SIGN" = some (some (.int 118 t43)))
    (h175 : PySem.W.nsIn K mainGlobals "GREATEST_LOOK" = some (some (.int 5 t44)))
    (h176 : PySem.W.nsIn K mainGlobals "MOST_BYTES" = some (some (.int 16384 t45)))
    (h177 : PySem.W.nsIn K mainGlobals "GREATEST_PITCH" = some (some (.int 8192 t46)))
    (h178 : PySem.W.nsIn K mainGlobals "OUT_OF_RANGE" = some (some (.int (-1) t47)))
    (h179 : PySem.W.nsIn K mainGlobals "TOO_LONG" = some (some (.int (-2) t48)))
    (h180 : PySem.W.nsIn K mainGlobals "NONE_SUCH" = some (some (.int (-6) t49)))
    (h181 : PySem.W.nsIn K mainGlobals "UNFIT" = some (some (.int (-9) t50)))
    (h182 : PySem.W.nsIn K mainGlobals "LOOK_AXES" = some (some (.ref a51)))
    (h183 : tupIn K a51 [2, 2, 0, 0, 1, 1] = true)
    (h184 : PySem.W.nsIn K mainGlobals "LOOK_WAYS" = some (some (.ref a52)))
    (h185 : tupIn K a52 [1, -1, 1, -1, 1, -1] = true)
    (h186 : PySem.W.nsIn K mainGlobals "AXES_ACROSS" = some (some (.ref a53)))
    (h187 : tupsIn K a53 [[1, 2], [0, 2], [0, 1]] = true)
    (h188 : PySem.W.nsIn K mainGlobals "any" = some none)
    (h189 : PySem.W.nsIn K mainGlobals "len" = some none)
    (h190 : PySem.W.nsIn K mainGlobals "max" = some none)
    (h191 : PySem.W.nsIn K mainGlobals "min" = some none)
    (h192 : PySem.W.nsIn K mainGlobals "range" = some none)
    (h193 : PySem.W.nsIn K mainGlobals "sorted" = some none)
    (h194 : PySem.W.nsIn K mainGlobals "tuple" = some none) :
    ∃ fd : FuncData, (∀ (s : Shared) (us : List Value), us.length = (["c", "x", "y", "z", "look", "t"] : List Str).length → BindsTo s fd ⟨us, []⟩ ((["c", "x", "y", "z", "look", "t"] : List Str).zip us)) ∧ ∀ base : Heap, K.In base → base.Ns mainGlobals mg → FnOk P w K mg base CX0 12 fa fd ["c", "x", "y", "z", "look", "t"] (spIn K) := by
  have e := hfa.symm.trans (PySem.W.mg_of X G h161)
  have ef : finside = fa := by
    injection e with e1
    injection e1 with e2
    exact e2.symm
  subst ef
  have T : Txt K mg ⟨cF, fF, cM, fM, cR, fR, fAt, fSee, fDig, fSkip, fBeg, fRd, fRn, fRl, fTc, fTt, fRm, fsides, ffirst_odd_side, fcentre_of, fdoubled, fdoubled_triangles, ffirst_sign, fside_sign, fis_crossed, fdifference, fdot, fcross, fis_ahead, fcrossed_triangles, fmeets_odd, flies_inside, fAns, fRef, fIp, fMo, finside⟩ := {
    exF := ⟨h3, h4, h5⟩
    gF := PySem.W.mg_of X G h1
    bF := ⟨_, fun_mk (st := sXI) h6 h7 h8, (fun_mk (st := sXI) h6 h7 h8).binds (ps := ["self", "place"]) fun _ _ _ _ _ _ us hl => match us, hl with | [_, _], _ => rfl⟩
    cM := ⟨h15, h16, h17, h18⟩
    mkM := ⟨h19, h10, h11, h20⟩
    gM := PySem.W.mg_of X G h9
    bM := ⟨_, fun_mk (st := sMI) h12 h13 h14, (fun_mk (st := sMI) h12 h13 h14).binds (ps := ["self", "corners", "triangles"]) fun _ _ _ _ _ _ us hl => match us, hl with | [_, _, _], _ => rfl⟩
    nMc := h21
    nMt := h22
    cR := ⟨h29, h30, h31, h32⟩
    mkR := ⟨h33, h24, h25, h34⟩
    gR := PySem.W.mg_of X G h23
    bR := ⟨_, fun_mk (st := sRI) h26 h27 h28, (fun_mk (st := sRI) h26 h27 h28).binds (ps := ["self", "signs"]) fun _ _ _ _ _ _ us hl => match us, hl with | [_, _], _ => rfl⟩
    nRs := h35
    nRp := h36
    mAt := ⟨h37, h38, h41⟩
    bAt := ⟨_, fun_mk (st := sAt) h39 h40 h41, (fun_mk (st := sAt) h39 h40 h41).binds (ps := ["self"]) fun _ _ _ _ _ _ us hl => match us, hl with | [_], _ => rfl⟩
    mSee := ⟨h42, h43, h46⟩
    bSee := ⟨_, fun_mk (st := sSee) h44 h45 h46, (fun_mk (st := sSee) h44 h45 h46).binds (ps := ["self", "sign"]) fun _ _ _ _ _ _ us hl => match us, hl with | [_, _], _ => rfl⟩
    mDig := ⟨h47, h48, h51⟩
    bDig := ⟨_, fun_mk (st := sDig) h49 h50 h51, (fun_mk (st := sDig) h49 h50 h51).binds (ps := ["self"]) fun _ _ _ _ _ _ us hl => match us, hl with | [_], _ => rfl⟩
    mSkip := ⟨h52, h53, h56⟩
    bSkip := ⟨_, fun_mk (st := sSkip) h54 h55 h56, (fun_mk (st := sSkip) h54 h55 h56).binds (ps := ["self", "sign"]) fun _ _ _ _ _ _ us hl => match us, hl with | [_, _], _ => rfl⟩
    gBeg := PySem.W.mg_of X G h57
    bBeg := ⟨_, fun_mk (st := sBeg) h58 h59 h60, (fun_mk (st := sBeg) h58 h59 h60).binds (ps := ["value", "greatest", "taken"]) fun _ _ _ _ _ _ us hl => match us, hl with | [_, _, _], _ => rfl⟩
    gRd := PySem.W.mg_of X G h61
    bRd := ⟨_, fun_mk (st := sRd) h62 h63 h64, (fun_mk (st := sRd) h62 h63 h64).binds (ps := ["reader", "tens", "greatest", "taken"]) fun _ _ _ _ _ _ us hl => match us, hl with | [_, _, _, _], _ => rfl⟩
    gRn := PySem.W.mg_of X G h65
    bRn := ⟨_, fun_mk (st := sRn) h66 h67 h68, (fun_mk (st := sRn) h66 h67 h68).binds (ps := ["reader", "greatest", "taken"]) fun _ _ _ _ _ _ us hl => match us, hl with | [_, _, _], _ => rfl⟩
    gRl := PySem.W.mg_of X G h69
    bRl := ⟨_, fun_mk (st := sRl) h70 h71 h72, (fun_mk (st := sRl) h70 h71 h72).binds (ps := ["reader", "sign", "greatest", "differ"]) fun _ _ _ _ _ _ us hl => match us, hl with | [_, _, _, _], _ => rfl⟩
    gTc := PySem.W.mg_of X G h73
    bTc := ⟨_, fun_mk (st := sTc) h74 h75 h76, (fun_mk (st := sTc) h74 h75 h76).binds (ps := ["mesh"]) fun _ _ _ _ _ _ us hl => match us, hl with | [_], _ => rfl⟩
    gTt := PySem.W.mg_of X G h77
    bTt := ⟨_, fun_mk (st := sTt) h78 h79 h80, (fun_mk (st := sTt) h78 h79 h80).binds (ps := ["mesh"]) fun _ _ _ _ _ _ us hl => match us, hl with | [_], _ => rfl⟩
    gRm := PySem.W.mg_of X G h81
    bRm := ⟨_, fun_mk (st := sRm) h82 h83 h84, (fun_mk (st := sRm) h82 h83 h84).binds (ps := ["signs"]) fun _ _ _ _ _ _ us hl => match us, hl with | [_], _ => rfl⟩
    gsides := PySem.W.mg_of X G h85
    bsides := ⟨_, fun_mk (st := ssides) h86 h87 h88, (fun_mk (st := ssides) h86 h87 h88).binds (ps := ["triangle"]) fun _ _ _ _ _ _ us hl => match us, hl with | [_], _ => rfl⟩
    gfirst_odd_side := PySem.W.mg_of X G h89
    bfirst_odd_side := ⟨_, fun_mk (st := sfirst_odd_side) h90 h91 h92, (fun_mk (st := sfirst_odd_side) h90 h91 h92).binds (ps := ["mesh"]) fun _ _ _ _ _ _ us hl => match us, hl with | [_], _ => rfl⟩
    gcentre_of := PySem.W.mg_of X G h93
    bcentre_of := ⟨_, fun_mk (st := scentre_of) h94 h95 h96, (fun_mk (st := scentre_of) h94 h95 h96).binds (ps := ["c", "x", "y", "z"]) fun _ _ _ _ _ _ us hl => match us, hl with | [_, _, _, _], _ => rfl⟩
    gdoubled := PySem.W.mg_of X G h97
    bdoubled := ⟨_, fun_mk (st := sdoubled) h98 h99 h100, (fun_mk (st := sdoubled) h98 h99 h100).binds (ps := ["corner"]) fun _ _ _ _ _ _ us hl => match us, hl with | [_], _ => rfl⟩
    gdoubled_triangles := PySem.W.mg_of X G h101
    bdoubled_triangles := ⟨_, fun_mk (st := sdoubled_triangles) h102 h103 h104, (fun_mk (st := sdoubled_triangles) h102 h103 h104).binds (ps := ["mesh"]) fun _ _ _ _ _ _ us hl => match us, hl with | [_], _ => rfl⟩
    gfirst_sign := PySem.W.mg_of X G h105
    bfirst_sign := ⟨_, fun_mk (st := sfirst_sign) h106 h107 h108, (fun_mk (st := sfirst_sign) h106 h107 h108).binds (ps := ["numbers"]) fun _ _ _ _ _ _ us hl => match us, hl with | [_], _ => rfl⟩
    gside_sign := PySem.W.mg_of X G h109
    bside_sign := ⟨_, fun_mk (st := sside_sign) h110 h111 h112, (fun_mk (st := sside_sign) h110 h111 h112).binds (ps := ["a", "b", "p", "u", "v"]) fun _ _ _ _ _ _ us hl => match us, hl with | [_, _, _, _, _], _ => rfl⟩
    gis_crossed := PySem.W.mg_of X G h113
    bis_crossed := ⟨_, fun_mk (st := sis_crossed) h114 h115 h116, (fun_mk (st := sis_crossed) h114 h115 h116).binds (ps := ["triangle", "p", "axis"]) fun _ _ _ _ _ _ us hl => match us, hl with | [_, _, _], _ => rfl⟩
    gdifference := PySem.W.mg_of X G h117
    bdifference := ⟨_, fun_mk (st := sdifference) h118 h119 h120, (fun_mk (st := sdifference) h118 h119 h120).binds (ps := ["a", "b"]) fun _ _ _ _ _ _ us hl => match us, hl with | [_, _], _ => rfl⟩
    gdot := PySem.W.mg_of X G h121
    bdot := ⟨_, fun_mk (st := sdot) h122 h123 h124, (fun_mk (st := sdot) h122 h123 h124).binds (ps := ["a", "b"]) fun _ _ _ _ _ _ us hl => match us, hl with | [_, _], _ => rfl⟩
    gcross := PySem.W.mg_of X G h125
    bcross := ⟨_, fun_mk (st := scross) h126 h127 h128, (fun_mk (st := scross) h126 h127 h128).binds (ps := ["a", "b"]) fun _ _ _ _ _ _ us hl => match us, hl with | [_, _], _ => rfl⟩
    gis_ahead := PySem.W.mg_of X G h129
    bis_ahead := ⟨_, fun_mk (st := sis_ahead) h130 h131 h132, (fun_mk (st := sis_ahead) h130 h131 h132).binds (ps := ["triangle", "p", "look"]) fun _ _ _ _ _ _ us hl => match us, hl with | [_, _, _], _ => rfl⟩
    gcrossed_triangles := PySem.W.mg_of X G h133
    bcrossed_triangles := ⟨_, fun_mk (st := scrossed_triangles) h134 h135 h136, (fun_mk (st := scrossed_triangles) h134 h135 h136).binds (ps := ["triangles", "p", "look"]) fun _ _ _ _ _ _ us hl => match us, hl with | [_, _, _], _ => rfl⟩
    gmeets_odd := PySem.W.mg_of X G h137
    bmeets_odd := ⟨_, fun_mk (st := smeets_odd) h138 h139 h140, (fun_mk (st := smeets_odd) h138 h139 h140).binds (ps := ["crossed", "p", "look"]) fun _ _ _ _ _ _ us hl => match us, hl with | [_, _, _], _ => rfl⟩
    glies_inside := PySem.W.mg_of X G h141
    blies_inside := ⟨_, fun_mk (st := slies_inside) h142 h143 h144, (fun_mk (st := slies_inside) h142 h143 h144).binds (ps := ["mesh", "p", "look"]) fun _ _ _ _ _ _ us hl => match us, hl with | [_, _, _], _ => rfl⟩
    gAns := PySem.W.mg_of X G h145
    bAns := ⟨_, fun_mk (st := sAns) h146 h147 h148, (fun_mk (st := sAns) h146 h147 h148).binds (ps := ["number", "told", "numbers"]) fun _ _ _ _ _ _ us hl => match us, hl with | [_, _, _], _ => rfl⟩
    gRef := PySem.W.mg_of X G h149
    bRef := ⟨_, fun_mk (st := sRef) h150 h151 h152, (fun_mk (st := sRef) h150 h151 h152).binds (ps := ["number"]) fun _ _ _ _ _ _ us hl => match us, hl with | [_], _ => rfl⟩
    gIp := PySem.W.mg_of X G h153
    bIp := ⟨_, fun_mk (st := sIp) h154 h155 h156, (fun_mk (st := sIp) h154 h155 h156).binds (ps := ["c"]) fun _ _ _ _ _ _ us hl => match us, hl with | [_], _ => rfl⟩
    gMo := PySem.W.mg_of X G h157
    bMo := ⟨_, fun_mk (st := sMo) h158 h159 h160, (fun_mk (st := sMo) h158 h159 h160).binds (ps := ["t"]) fun _ _ _ _ _ _ us hl => match us, hl with | [_], _ => rfl⟩
    ginside := PySem.W.mg_of X G h161
    binside := ⟨_, fun_mk (st := sinside) h162 h163 h164, (fun_mk (st := sinside) h162 h163 h164).binds (ps := ["c", "x", "y", "z", "look", "t"]) fun _ _ _ _ _ _ us hl => match us, hl with | [_, _, _, _, _, _], _ => rfl⟩
    n12 := ⟨t34, PySem.W.mg_of X G h165⟩
    n64 := ⟨t35, PySem.W.mg_of X G h166⟩
    n128 := ⟨t36, PySem.W.mg_of X G h167⟩
    nG := ⟨t37, PySem.W.mg_of X G h168⟩
    nLE := ⟨t38, PySem.W.mg_of X G h169⟩
    nB := ⟨t39, PySem.W.mg_of X G h170⟩
    n48 := ⟨t40, PySem.W.mg_of X G h171⟩
    n57 := ⟨t41, PySem.W.mg_of X G h172⟩
    nT := ⟨t42, PySem.W.mg_of X G h173⟩
    nC := ⟨t43, PySem.W.mg_of X G h174⟩
    n_GREATEST_LOOK := ⟨t44, PySem.W.mg_of X G h175⟩
    nMB := ⟨t45, PySem.W.mg_of X G h176⟩
    n_GREATEST_PITCH := ⟨t46, PySem.W.mg_of X G h177⟩
    n_OUT_OF_RANGE := ⟨t47, PySem.W.mg_of X G h178⟩
    nTL := ⟨t48, PySem.W.mg_of X G h179⟩
    nNS := ⟨t49, PySem.W.mg_of X G h180⟩
    n_UNFIT := ⟨t50, PySem.W.mg_of X G h181⟩
    t_LOOK_AXES := tupG_of (PySem.W.mg_of X G h182) h183
    t_LOOK_WAYS := tupG_of (PySem.W.mg_of X G h184) h185
    t_AXES_ACROSS := tupsG_of (PySem.W.mg_of X G h186) h187
    any := PySem.W.ns_none_of X G h188
    len := PySem.W.ns_none_of X G h189
    «max» := PySem.W.ns_none_of X G h190
    «min» := PySem.W.ns_none_of X G h191
    range := PySem.W.ns_none_of X G h192
    sorted := PySem.W.ns_none_of X G h193
    tuple := PySem.W.ns_none_of X G h194 }
  exact ⟨PySem.W.fnOf "inside" "inside" (defArgs sinside) (defBody sinside) (defScope sinside) .none kv33 dc33 pm33 an33 cd33 ct33, fun s us hu => match us, hu with | [_, _, _, _, _, _], _ => .of_eq rfl, fun base _ _ => ok_in (fun_mk (st := sinside) h162 h163 h164) T⟩
end MP
open PySem PySem.W PyProof.Rows
set_option maxRecDepth 100000 in
set_option maxHeartbeats 0 in
/-! These three names are taken, so that the head makes no quick copy of the three greatest heaps, which it does not need: with the copies the compiled text is near what a hand-in may be at most. -/
def PySem.W.Fast.tw3618877289612289239 : Nat := 0
def PySem.W.Fast.tw14346179404465244999 : Nat := 0
def PySem.W.Fast.tw10926020923307914626 : Nat := 0
theorem PySem.Challenge.cw_beadbodies_s06_inside_holds : PySem.Challenge.rw_beadbodies_s06_inside.Holds := by
  w_on; k_headS; (case hw => exact ⟨[.int 0, .int 0, .int 0, .int 0, .int 0, .list []], by decide +kernel, by decide +kernel⟩)
  k_fillS
  refine L2.walk_specK (r := PySem.Challenge.rw_beadbodies_s06_inside) (k := 12) (CX := L2.CX0) (ps := ["c", "x", "y", "z", "look", "t"]) (sp := MP.spIn) (by decide +kernel) rfl rfl ⟨rfl, by decide, by decide⟩ (fun w h Y => PySem.W.kIn_of Y) ?F ?S (fun _ _ _ _ z => z)
  case F =>
    intro w mg fa h Y KX G hmg
    refine' MP.all_mk KX G hmg ?h1 ?h2 ?h3 ?h4 ?h5 ?h6 ?h7 ?h8 ?h9 ?h10 ?h11 ?h12 ?h13 ?h14 ?h15 ?h16 ?h17 ?h18 ?h19 ?h20 ?h21 ?h22 ?h23 ?h24 ?h25 ?h26 ?h27 ?h28 ?h29 ?h30 ?h31 ?h32 ?h33 ?h34 ?h35 ?h36 ?h37 ?h38 ?h39 ?h40 ?h41 ?h42 ?h43 ?h44 ?h45 ?h46 ?h47 ?h48 ?h49 ?h50 ?h51 ?h52 ?h53 ?h54 ?h55 ?h56 ?h57 ?h58 ?h59 ?h60 ?h61 ?h62 ?h63 ?h64 ?h65 ?h66 ?h67 ?h68 ?h69 ?h70 ?h71 ?h72 ?h73 ?h74 ?h75 ?h76 ?h77 ?h78 ?h79 ?h80 ?h81 ?h82 ?h83 ?h84 ?h85 ?h86 ?h87 ?h88 ?h89 ?h90 ?h91 ?h92 ?h93 ?h94 ?h95 ?h96 ?h97 ?h98 ?h99 ?h100 ?h101 ?h102 ?h103 ?h104 ?h105 ?h106 ?h107 ?h108 ?h109 ?h110 ?h111 ?h112 ?h113 ?h114 ?h115 ?h116 ?h117 ?h118 ?h119 ?h120 ?h121 ?h122 ?h123 ?h124 ?h125 ?h126 ?h127 ?h128 ?h129 ?h130 ?h131 ?h132 ?h133 ?h134 ?h135 ?h136 ?h137 ?h138 ?h139 ?h140 ?h141 ?h142 ?h143 ?h144 ?h145 ?h146 ?h147 ?h148 ?h149 ?h150 ?h151 ?h152 ?h153 ?h154 ?h155 ?h156 ?h157 ?h158 ?h159 ?h160 ?h161 ?h162 ?h163 ?h164 ?h165 ?h166 ?h167 ?h168 ?h169 ?h170 ?h171 ?h172 ?h173 ?h174 ?h175 ?h176 ?h177 ?h178 ?h179 ?h180 ?h181 ?h182 ?h183 ?h184 ?h185 ?h186 ?h187 ?h188 ?h189 ?h190 ?h191 ?h192 ?h193 ?h194
    (case h1 => k_is); (case h2 => k_is); (case h3 => kernel_rfl!); (case h4 => kernel_rfl!); (case h5 => k_is); (case h6 => k_is)
    (case h7 => k_is); (case h8 => k_is); (case h9 => k_is); (case h10 => k_is); (case h11 => k_is); (case h12 => k_is)
    (case h13 => k_is); (case h14 => k_is); (case h15 => k_is); (case h16 => k_is); (case h17 => k_is); (case h18 => k_is)
    (case h19 => k_is); (case h20 => k_is); (case h21 => k_is); (case h22 => k_is); (case h23 => k_is); (case h24 => k_is)
    (case h25 => k_is); (case h26 => k_is); (case h27 => k_is); (case h28 => k_is); (case h29 => k_is); (case h30 => k_is)
    (case h31 => k_is); (case h32 => k_is); (case h33 => k_is); (case h34 => k_is); (case h35 => k_is); (case h36 => k_is)
    (case h37 => k_is); (case h38 => k_is); (case h39 => k_is); (case h40 => k_is); (case h41 => k_is); (case h42 => k_is)
    (case h43 => k_is); (case h44 => k_is); (case h45 => k_is); (case h46 => k_is); (case h47 => k_is); (case h48 => k_is)
    (case h49 => k_is); (case h50 => k_is); (case h51 => k_is); (case h52 => k_is); (case h53 => k_is); (case h54 => k_is)
    (case h55 => k_is); (case h56 => k_is); (case h57 => k_is); (case h58 => k_is); (case h59 => k_is); (case h60 => k_is)
    (case h61 => k_is); (case h62 => k_is); (case h63 => k_is); (case h64 => k_is); (case h65 => k_is); (case h66 => k_is)
    (case h67 => k_is); (case h68 => k_is); (case h69 => k_is); (case h70 => k_is); (case h71 => k_is); (case h72 => k_is)
    (case h73 => k_is); (case h74 => k_is); (case h75 => k_is); (case h76 => k_is); (case h77 => k_is); (case h78 => k_is)
    (case h79 => k_is); (case h80 => k_is); (case h81 => k_is); (case h82 => k_is); (case h83 => k_is); (case h84 => k_is)
    (case h85 => k_is); (case h86 => k_is); (case h87 => k_is); (case h88 => k_is); (case h89 => k_is); (case h90 => k_is)
    (case h91 => k_is); (case h92 => k_is); (case h93 => k_is); (case h94 => k_is); (case h95 => k_is); (case h96 => k_is)
    (case h97 => k_is); (case h98 => k_is); (case h99 => k_is); (case h100 => k_is); (case h101 => k_is); (case h102 => k_is)
    (case h103 => k_is); (case h104 => k_is); (case h105 => k_is); (case h106 => k_is); (case h107 => k_is); (case h108 => k_is)
    (case h109 => k_is); (case h110 => k_is); (case h111 => k_is); (case h112 => k_is); (case h113 => k_is); (case h114 => k_is)
    (case h115 => k_is); (case h116 => k_is); (case h117 => k_is); (case h118 => k_is); (case h119 => k_is); (case h120 => k_is)
    (case h121 => k_is); (case h122 => k_is); (case h123 => k_is); (case h124 => k_is); (case h125 => k_is); (case h126 => k_is)
    (case h127 => k_is); (case h128 => k_is); (case h129 => k_is); (case h130 => k_is); (case h131 => k_is); (case h132 => k_is)
    (case h133 => k_is); (case h134 => k_is); (case h135 => k_is); (case h136 => k_is); (case h137 => k_is); (case h138 => k_is)
    (case h139 => k_is); (case h140 => k_is); (case h141 => k_is); (case h142 => k_is); (case h143 => k_is); (case h144 => k_is)
    (case h145 => k_is); (case h146 => k_is); (case h147 => k_is); (case h148 => k_is); (case h149 => k_is); (case h150 => k_is)
    (case h151 => k_is); (case h152 => k_is); (case h153 => k_is); (case h154 => k_is); (case h155 => k_is); (case h156 => k_is)
    (case h157 => k_is); (case h158 => k_is); (case h159 => k_is); (case h160 => k_is); (case h161 => k_is); (case h162 => k_is)
    (case h163 => k_is); (case h164 => k_is); (case h165 => k_is); (case h166 => k_is); (case h167 => k_is); (case h168 => k_is)
    (case h169 => k_is); (case h170 => k_is); (case h171 => k_is); (case h172 => k_is); (case h173 => k_is); (case h174 => k_is)
    (case h175 => k_is); (case h176 => k_is); (case h177 => k_is); (case h178 => k_is); (case h179 => k_is); (case h180 => k_is)
    (case h181 => k_is); (case h182 => k_is); (case h183 => kernel_rfl!); (case h184 => k_is); (case h185 => kernel_rfl!); (case h186 => k_is)
    (case h187 => kernel_rfl!); (case h188 => k_is); (case h189 => k_is); (case h190 => k_is); (case h191 => k_is); (case h192 => k_is)
    (case h193 => k_is); (case h194 => k_is)
  case S =>
    intro K H xs a hO hwi hask hx
    cases hx with
    | cons h0 t0 =>
      cases t0 with
      | cons h1 t1 =>
        cases t1 with
        | cons h2 t2 =>
          cases t2 with
          | cons h3 t3 =>
            cases t3 with
            | cons h4 t4 =>
              cases t4 with
              | cons h5 t5 =>
                cases t5
                cases h0 with
                | int =>
                  cases h1 with
                  | int =>
                    cases h2 with
                    | int =>
                      cases h3 with
                      | int =>
                        cases h4 with
                        | int =>
                          cases h5 with
                          | lst hs5 ha5 =>
                            have e5 := L2.ints_dw a.2.2.2.2.2.1 _ ha5
                            subst e5
                            have q : (Codec.inInt 0 18446744073709551615 a.1 && (Codec.inInt 0 18446744073709551615 a.2.1 && (Codec.inInt 0 18446744073709551615 a.2.2.1 && (Codec.inInt 0 18446744073709551615 a.2.2.2.1 && (Codec.inInt 0 18446744073709551615 a.2.2.2.2.1 && ((Codec.inLen 0 16500 a.2.2.2.2.2.1 && a.2.2.2.2.2.1.all (Codec.inInt 0 255)) && true)))))) = true := hwi
                            have q0 := (Bool.and_eq_true_iff.mp q).1
                            have qr0 := (Bool.and_eq_true_iff.mp q).2
                            have q1 := (Bool.and_eq_true_iff.mp qr0).1
                            have qr1 := (Bool.and_eq_true_iff.mp qr0).2
                            have q2 := (Bool.and_eq_true_iff.mp qr1).1
                            have qr2 := (Bool.and_eq_true_iff.mp qr1).2
                            have q3 := (Bool.and_eq_true_iff.mp qr2).1
                            have qr3 := (Bool.and_eq_true_iff.mp qr2).2
                            have q4 := (Bool.and_eq_true_iff.mp qr3).1
                            have qr4 := (Bool.and_eq_true_iff.mp qr3).2
                            have q5 := (Bool.and_eq_true_iff.mp qr4).1
                            have qr5 := (Bool.and_eq_true_iff.mp qr4).2
                            exact MP.req_in (PySem.W.Codec.inInt_iff.mp q0).1 (PySem.W.Codec.inInt_iff.mp q1).1 (PySem.W.Codec.inInt_iff.mp q2).1 (PySem.W.Codec.inInt_iff.mp q3).1 (PySem.W.Codec.inInt_iff.mp q4).1 hs5 (Bool.and_eq_true_iff.mp q5).2

end
